/- Parts. -/
import Derived.Test.YtohmklmkjmlpjaaGreatDoorRk30
namespace Go.Proofs.YtohmklmkjmlpjaaGreatDoor
open Go.Proofs.Tryz
set_option maxHeartbeats 8000000
set_option maxRecDepth 100000
open Go.RowKit
open Mth
variable (n:Nd) (a_k jl dW eH gH:Option Addr) (aK bJ aQ aL aU:Nat) (G:aY) (c:Nat->Nat) {w W' X W4 wr:World} {a:Option Addr} {ob cs B:Nat} {l:List Sn} {T2:List R3} {I:Nat->Nat}
theorem acE (a:Option Addr) (cap:Nat) (l:List Pu) (w:World) (hl:l.length<=1048600) (ha:aG w a l):
 Calls prog 80 #[.slice a l.length cap] w λe w'=>∃a' c',e= .returned (.slice a' l.length c')/\w'.ownsRow w.heap.size 108 4 (.slice a' l.length c') l.length (GR.flat gB l)/\aI w w'/\(∃g,a'=some ⟨g,0,none⟩)/\l.length<=c':=by
 obtain⟨i0,hi,hz0,hz1,hz2⟩:=info_parts ET;obtain⟨a',c',y,hrun,hrow,hby,hsm⟩:=run_copy_row (P:=prog) (enc:=gB) aZ Aaa w 35 108 i0 (.agg (iZ ByteArray.empty 0 0 0)) 40 underlying35 hi hz0 hz1 hz2 rfl a l cap ha (Ew l) Aai Aaa;have HR:=Hq hrow;have HB:=Hq hby;have yT:=Hq hsm;clear ha hi hz0 hz1 hz2 hrow hby hsm;go_in
 go_wp2_with (at_builtin;refine gK rfl _ _ 35 rfl _ _ rfl rfl _ _ (hrun _) ?_)
 go_ret;exact⟨a',c',rfl,HR,HB,yT⟩
def CK (s0 s1 s2 s3 s4 gs x:Nat):Nat:=if x < s0 then 0 else if x < s1 then 1 else if x < s2 then 2 else if x < s3 then 3 else if x < s4 then 6 else if x=gs then 4 else 5
structure SM (W4 wr:World) (ob k:Nat) (l:List Sn) (T2:List R3) (I:Nat->Nat) (a:Option Addr) (cs:Nat):Prop where
 len:T2.length=k
 own:wr.ownsRow W4.heap.size 110 3 (.slice a k cs) k (GR.flat fV T2)
 dn:∀i (hi:i < l.length),i < k->∃b c,T2[i]?=some ⟨l[i].f,l[i].l,.slice b l[i].ids.length c⟩/\WO wr b c (I i) l[i].ids/\∀x∈fp (I i) l[i].ids,W4.heap.size<=x/\x < wr.heap.size/\(Value.slice a k cs).ownBlock≠some x
 nd:∀i j (hi:i < l.length) (hj:j < l.length),i < j->j < k->0 < l[i].ids.length->0 < l[j].ids.length->I i≠I j
 kp:aC [ob] W4 wr
theorem SM.next {x y:World} {k:Nat} {a2:Option Addr} {c2 gi cc:Nat} {b:Option Addr} (h:SM W4 wr ob k l T2 I a cs) (hk:k < l.length) (hob:ob < W4.heap.size) (hx:aI wr x) (hi:WO x b cc gi l[k].ids) (hlt:∀z∈fp gi l[k].ids,wr.heap.size<=z/\z < x.heap.size) (ho:y.ownsRow W4.heap.size 110 3 (.slice a2 (k+1) c2) (k+1) (GR.flat fV T2++fV ⟨l[k].f,l[k].l,.slice b l[k].ids.length cc⟩)) (hg:x.grownBy y (Value.slice a k cs).ownBlock) (hw:∀z,(Value.slice a2 (k+1) c2).ownBlock=some z->(Value.slice a k cs).ownBlock=some z\/x.heap.size<=z):
 SM W4 (y.setCell ⟨ob,6,none⟩ (.slice a2 (k+1) c2)) ob (k+1) l (T2++[⟨l[k].f,l[k].l,.slice b l[k].ids.length cc⟩]) (λi=>if i=k then gi else I i) a2 c2:=by
 have hs:y.heap.size=(y.setCell ⟨ob,6,none⟩ (.slice a2 (k+1) c2)).heap.size:=Aar
 have hkp:aC [ob] y (y.setCell ⟨ob,6,none⟩ (.slice a2 (k+1) c2)):=aC.set _;have hx1:=hx.size;have hx2:=hg.size;have hx3:=h.kp.size;have hoo:=h.own.lt;have hxy:aC (Value.slice a k cs).ownBlock.toList x y:=⟨hg.os,hg.tape,hg.output,hg.size,λz hz hne=>hg.block z hz (λe=>hne (by rw [<-e];simp))⟩;refine⟨by simp[h.len],?_,λi hi' hik=>?_,λi j hi' hj hij hjk h1 h2=>?_,?_⟩
 .rw [GR.flat_append,GR.flat_one];exact dM ho hkp (λz hz=>by have:z=ob:=Ack;omega)
 .by_cases e:i=k
  .subst e;refine⟨b,cc,by rw [List.getElem?_append_right (by rw [h.len];exact Nat.le_refl _),h.len];simp,?_,?_⟩
   .rw [if_pos rfl];refine(hi.keeps hxy (λz hz hm=>?_)).keeps hkp (λz hz hm=>?_)
    .have h1:(Value.slice a i cs).ownBlock=some z:=Aaz
     have:=(hoo z h1).2;have:=(hlt z hz).1;omega
    .have:=(hlt z hz).1;have:z=ob:=Aaz;omega
   .rw [if_pos rfl];refine λz hz=>⟨by have:=(hlt z hz).1;omega,by rw [<-hs];have:=(hlt z hz).2;omega,λe2=>?_⟩
    rcases hw z e2 with h1|h1
    .have:=(hoo z h1).2;have:=(hlt z hz).1;omega
    .have:=(hlt z hz).2;omega
  .obtain⟨b',c',e1,e2,e3⟩:=h.dn i hi' Aaa;refine⟨b',c',by rw [List.getElem?_append_left (by rw [h.len];omega)];exact e1,?_,?_⟩
   .rw [if_neg e];refine((e2.below hx).keeps hxy (λz hz hm=>?_)).keeps hkp (λz hz hm=>?_)
    .exact(e3 z hz).2.2 Aaz
    .have:=(e3 z hz).1;have:z=ob:=Aaz;omega
   .rw [if_neg e];refine λz hz=>⟨(e3 z hz).1,by rw [<-hs];have:=(e3 z hz).2.1;omega,λe4=>?_⟩
    rcases hw z e4 with h1|h1
    .exact(e3 z hz).2.2 h1
    .have:=(e3 z hz).2.1;omega
 .by_cases ej:j=k
  .subst ej;rw [if_neg Aaa,if_pos rfl];obtain⟨_,_,_,_,e3⟩:=h.dn i hi' Aaa;have q1:=(e3 (I i) (eG h1)).2.1;have q2:=(hlt gi (eG h2)).1;omega
  .exact ajW
 .refine⟨hg.os.trans (hx.os.trans h.kp.os),hg.tape.trans (hx.tape.trans h.kp.tape),hg.output.trans (hx.output.trans h.kp.output),by rw [<-hs];omega,λz hz hm=>?_⟩;have hne:z≠ob:=Aaz
  rw [Below.heap_setCell _ _ _ _ hne,hg.block z Aaa (λe=>by have:=(hoo z e.symm).1;omega),hx.block z Aaa];exact h.kp.block z hz hm
theorem SM.done (h:SM W4 wr ob l.length l T2 I a cs):∃g,oz wr a g I l/\(∀x∈fp g l,W4.heap.size<=x)/\(∀x∈wR I l,W4.heap.size<=x/\x < wr.heap.size/\x∉fp g l)/\(wR I l).Nodup:=by
 open awY in exact ahn
theorem uF (n:Nd) (A:bV) (w:World) (hz:eX n 1048576) (ha:dx w A n):
 Calls prog 30 #[fQ n A] w λe w'=>∃A' G' c',e= .returned (fQ n A')/\NQ w' w.heap.size n A' G' c'/\aI w w'/\(∃g,A'.p=some ⟨g,0,none⟩)/\n.pu.length<=A'.cp/\(∃g,A'.r=some ⟨g,0,none⟩)/\n.reqs.length<=A'.cr:=by
 have HZ:=Hq hz;have HA:=Hq ha;have hlk:=hz.k;have hlp:=hz.p;have hlo:=hz.o;have hls:=hz.s;have hlr:=hz.r;clear hz ha;go_in
 go_upto_region 2 with fail;refine wp_at (λW0 hW=>?_);obtain⟨e1,e2,e3,e4⟩:=gI w (.cells (dH n A) 40) (.cells gN 40) (.cells (dH n A) 40);rw [<-hW] at e1 e2 e3 e4;have wW:=Hq e1;have NV:=Hq e2;have I7:=Hq e3;have DZ:=Hq e4;have hsz0:=aA e3;clear hW e1 e2 e3 e4;obtain⟨c0,c1,c2,c3,c4,c5,c6,c7,c8⟩:=nine wW;have alB:=aA wW;have aF6:=aA I7;obtain⟨i0,hi,hz0,hz1,hz2⟩:=info_parts wC;obtain⟨ak,ck,aGN,hrun,hrow,hby,_⟩:=run_copy_row (P:=prog) (enc:=bf) aX Aaa W0 22 3 i0 (.int .i64 0) 8 underlying22 hi hz0 hz1 hz2 rfl A.k n.kids A.ck (GR.At.below HA.k DZ) (by intro u hu;rw [Ez] at hu;obtain⟨z,_,rfl⟩:=List.mem_map.1 hu;rfl) Aai Aaa;clear hi hz0 hz1 hz2;have yU:=Hq hby;obtain⟨d0,d1,d2,d3,d4,d5,d6,d7,d8⟩:=nine (au I7 hby);have f1:=aj (au I7 hby) 2;have Tn:=aA (au I7 hby);clear hby;go_upto_region 3 with(at_builtin;refine gK rfl _ _ 22 rfl _ _ rfl rfl _ _ (hrun _) ?_)
 refine wp_at (λW1 hW=>?_);have hO1:=au I7 yU;have wX:Hid (W1.heap[w.heap.size]?=some (.cells (dH n A) 40 (0,0))):=by rw [hW];exact(Below.heap_setCell _ _ _ _ (show w.heap.size≠w.heap.size+2 by omega)).trans (au wW yU)
 have NW:Hid (W1.heap[w.heap.size+1]?=some (.cells gN 40 (0,0))):=by rw [hW];exact(Below.heap_setCell _ _ _ _ (show w.heap.size+1≠w.heap.size+2 by omega)).trans (au NV yU)
 have I8:Hid (W1.heap[w.heap.size+2]?=some (.cells (fP n.id n.par ak n.kids.length ck n.next A.p n.pu.length A.cp A.o n.out.length A.co A.s n.seen.length A.cs n.old A.r n.reqs.length A.cr) 40 (0,0))):=Acv
 have D6:Hid (aI w W1):=by rw [hW];exact tu Aaa (DZ.trans (yU.mono DZ.size))
 have Nw:Hid (aC [w.heap.size+2] W0 W1):=by rw [hW];exact keepsN yU
 have UY:Hid (aC [w.heap.size+2] aGN W1):=Abd
 clear hW hO1 wW NV I7;clear c0 c1 c2 c3 c4 c5 c6 c7 c8 d0 d1 d2 d3 d4 d5 d6 d7 d8 f1 Tn hrun;have HKW:Hid (W1.ownsRow W0.heap.size 3 1 (.slice ak n.kids.length ck) n.kids.length (GR.flat bf n.kids)):=dM hrow UY (λx hx=>by have:x=w.heap.size+2:=Aaf;omega);clear hrow;obtain⟨c0,c1,c2,c3,c4,c5,c6,c7,c8⟩:=nine wX;have alC:=aA wX;have aF7:=aA I8;go_wp2_with fail;refine(acE A.p A.cp n.pu W1 Aaa (GR.At.below HA.p D6)).mono ?_;rintro e aGO ⟨ap,cp,rfl,hrow,hby,hsm⟩;have HPS:=Hq hsm;clear hsm;have yV:=Hq hby;obtain⟨d0,d1,d2,d3,d4,d5,d6,d7,d8⟩:=nine (au I8 hby);have f1:=aj (au I8 hby) 4;have Tn:=aA (au I8 hby);clear hby c0 c1 c2 c3 c4 c5 c6 c7 c8;go_upto_region 4 with fail;refine wp_at (λW2 hW=>?_);have hO1:=au I8 yV;have wY:Hid (W2.heap[w.heap.size]?=some (.cells (dH n A) 40 (0,0))):=by rw [hW];exact(Below.heap_setCell _ _ _ _ (show w.heap.size≠w.heap.size+2 by omega)).trans (au wX yV)
 have NY:Hid (W2.heap[w.heap.size+1]?=some (.cells gN 40 (0,0))):=by rw [hW];exact(Below.heap_setCell _ _ _ _ (show w.heap.size+1≠w.heap.size+2 by omega)).trans (au NW yV)
 have I9:Hid (W2.heap[w.heap.size+2]?=some (.cells (fP n.id n.par ak n.kids.length ck n.next ap n.pu.length cp A.o n.out.length A.co A.s n.seen.length A.cs n.old A.r n.reqs.length A.cr) 40 (0,0))):=Acv
 have D7:Hid (aI w W2):=by rw [hW];exact tu Aaa (D6.trans (yV.mono D6.size))
 have IV:Hid (aC [w.heap.size+2] W1 W2):=by rw [hW];exact keepsN yV
 have UZ:Hid (aC [w.heap.size+2] aGO W2):=Abd
 clear hW hO1 wX NW I8;clear d0 d1 d2 d3 d4 d5 d6 d7 d8 f1 Tn;have Gi:Hid (W2.ownsRow W1.heap.size 108 4 (.slice ap n.pu.length cp) n.pu.length (GR.flat gB n.pu)):=dM hrow UZ (λx hx=>by have:x=w.heap.size+2:=Aaf;omega);clear hrow;obtain⟨c0,c1,c2,c3,c4,c5,c6,c7,c8⟩:=nine wY;have alD:=aA wY;have aF8:=aA I9;obtain⟨i0,hi,hz0,hz1,hz2⟩:=info_parts EW;obtain⟨ao,co,aGP,hrun,hrow,hby,_⟩:=run_copy_row (P:=prog) (enc:=aV) bQ Aaa W2 36 91 i0 (.agg (fA 0 0 ByteArray.empty 0)) 40 underlying36 hi hz0 hz1 hz2 rfl A.o n.out A.co (GR.At.below HA.o D7) (Ci _) Aai Aaa;clear hi hz0 hz1 hz2;have yX:=Hq hby;obtain⟨d0,d1,d2,d3,d4,d5,d6,d7,d8⟩:=nine (au I9 hby);have f1:=aj (au I9 hby) 5;have Tn:=aA (au I9 hby);clear hby;go_upto_region 5 with(at_builtin;refine gK rfl _ _ 36 rfl _ _ rfl rfl _ _ (hrun _) ?_)
 refine wp_at (λW3 hW=>?_);have hO1:=au I9 yX;have wZ:Hid (W3.heap[w.heap.size]?=some (.cells (dH n A) 40 (0,0))):=by rw [hW];exact(Below.heap_setCell _ _ _ _ (show w.heap.size≠w.heap.size+2 by omega)).trans (au wY yX)
 have N8:Hid (W3.heap[w.heap.size+1]?=some (.cells gN 40 (0,0))):=by rw [hW];exact(Below.heap_setCell _ _ _ _ (show w.heap.size+1≠w.heap.size+2 by omega)).trans (au NY yX)
 have Ja:Hid (W3.heap[w.heap.size+2]?=some (.cells (fP n.id n.par ak n.kids.length ck n.next ap n.pu.length cp ao n.out.length co A.s n.seen.length A.cs n.old A.r n.reqs.length A.cr) 40 (0,0))):=Acv
 have IL:Hid (aI w W3):=by rw [hW];exact tu Aaa (D7.trans (yX.mono D7.size))
 have IW:Hid (aC [w.heap.size+2] W2 W3):=by rw [hW];exact keepsN yX
 have aae:Hid (aC [w.heap.size+2] aGP W3):=Abd
 clear hW hO1 wY NY I9;clear c0 c1 c2 c3 c4 c5 c6 c7 c8 d0 d1 d2 d3 d4 d5 d6 d7 d8 f1 Tn hrun;have HOW:Hid (W3.ownsRow W2.heap.size 91 4 (.slice ao n.out.length co) n.out.length (GR.flat aV n.out)):=dM hrow aae (λx hx=>by have:x=w.heap.size+2:=Aaf;omega);clear hrow;obtain⟨c0,c1,c2,c3,c4,c5,c6,c7,c8⟩:=nine wZ;have alE:=aA wZ;have aF9:=aA Ja;obtain⟨i0,hi,hz0,hz1,hz2⟩:=info_parts wD;obtain⟨ar,cr,aGQ,hrun,hrow,hby,hsr⟩:=run_copy_row (P:=prog) (enc:=aJ) aS Aaa W3 38 95 i0 (.agg (dZ 0 ByteArray.empty 0 0)) 40 underlying38 hi hz0 hz1 hz2 rfl A.r n.reqs A.cr (GR.At.below HA.r IL) (iM _) Aai Aaa;clear hi hz0 hz1 hz2;have HRS:=Hq hsr;clear hsr;have Og:=Hq hby;obtain⟨d0,d1,d2,d3,d4,d5,d6,d7,d8⟩:=nine (au Ja hby);have f1:=aj (au Ja hby) 8;have Tn:=aA (au Ja hby);clear hby;go_upto_region 6 with(at_builtin;refine gK rfl _ _ 38 rfl _ _ rfl rfl _ _ (hrun _) ?_)
 refine wp_at (λW4 hW=>?_);have hO1:=au Ja Og;have yP:Hid (W4.heap[w.heap.size]?=some (.cells (dH n A) 40 (0,0))):=by rw [hW];exact(Below.heap_setCell _ _ _ _ (show w.heap.size≠w.heap.size+2 by omega)).trans (au wZ Og)
 have UW:Hid (W4.heap[w.heap.size+1]?=some (.cells gN 40 (0,0))):=by rw [hW];exact(Below.heap_setCell _ _ _ _ (show w.heap.size+1≠w.heap.size+2 by omega)).trans (au N8 Og)
 have UU:Hid (W4.heap[w.heap.size+2]?=some (.cells (fP n.id n.par ak n.kids.length ck n.next ap n.pu.length cp ao n.out.length co A.s n.seen.length A.cs n.old ar n.reqs.length cr) 40 (0,0))):=Acv
 have D8:Hid (aI w W4):=by rw [hW];exact tu Aaa (IL.trans (Og.mono IL.size))
 have IX:Hid (aC [w.heap.size+2] W3 W4):=by rw [hW];exact keepsN Og
 have am5:Hid (aC [w.heap.size+2] aGQ W4):=Abd
 clear hW hO1 wZ N8 Ja;clear c0 c1 c2 c3 c4 c5 c6 c7 c8 d0 d1 d2 d3 d4 d5 d6 d7 d8 f1 Tn hrun;have HQW:Hid (W4.ownsRow W3.heap.size 95 4 (.slice ar n.reqs.length cr) n.reqs.length (GR.flat aJ n.reqs)):=dM hrow am5 (λx hx=>by have:x=w.heap.size+2:=Aaf;omega);clear hrow;obtain⟨c0,c1,c2,c3,c4,c5,c6,c7,c8⟩:=nine yP;have alF:=aA yP;have abW:=aA UU;obtain⟨d0,d1,d2,d3,d4,d5,d6,d7,d8⟩:=nine UU;have f6:=aj UU 6;go_upto_region 7 with fail;refine wp_at (λZ hZ=>?_);have ae9:(W4.setCell ⟨w.heap.size+2,6,none⟩ (.slice (some ⟨W4.heap.size,0,none⟩) 0 0)).heap.size=W4.heap.size:=Aar
 have hZo:Z.ownsRow W4.heap.size 110 3 (.slice (some ⟨W4.heap.size,0,none⟩) 0 0) 0 []:=by
  have hlit:=World.ownsRow_lit (base:=W4.heap.size) (e:=110) (size:=3) (W4.setCell ⟨w.heap.size+2,6,none⟩ (.slice (some ⟨W4.heap.size,0,none⟩) 0 0)) #[] 0 (by rw [ae9];exact Nat.le_refl _) Aai Aac;rw [ae9] at hlit;rw [hZ];exact hlit
 have hZk:aC [w.heap.size+2] W4 Z:=by rw [hZ];exact(aC.set _).trans (aC.of_below (ay _ _))
 have hZb:Z.heap[w.heap.size+2]?=some (.cells (fP n.id n.par ak n.kids.length ck n.next ap n.pu.length cp ao n.out.length co (some ⟨W4.heap.size,0,none⟩) 0 0 n.old ar n.reqs.length cr) 40 (0,0)):=by
  rw [hZ];exact(Below.heap_alloc _ _ _ (by rw [ae9];exact abW)).trans (oD UU)
 have HZF:=Hq (And.intro hZo (And.intro hZk hZb));clear hZ ae9 hZo hZk hZb c0 c1 c2 c3 c4 c5 c6 c7 c8 d0 d1 d2 d3 d4 d5 d6 d7 d8 f6;go_wp2_with fail;go_loopw [4] (λi wr=>∃(k:Nat) (T2:List R3) (I:Nat->Nat) (a:Option Addr) (cs:Nat),k<=n.seen.length/\i= .int .i64 k/\SM W4 wr (w.heap.size+2) k n.seen T2 I a cs/\wr.heap[w.heap.size+2]?=some (.cells (fP n.id n.par ak n.kids.length ck n.next ap n.pu.length cp ao n.out.length co a k cs n.old ar n.reqs.length cr) 40 (0,0))) (λi _=>n.seen.length - (intOf i).toNat)
 case atStart=>
  exact⟨0,[],λ_=>0,some ⟨W4.heap.size,0,none⟩,0,Nat.zero_le _,rfl,⟨rfl,HZF.1,λi hi h=>Aaa,λi j _ _ _ h=>Aaa,HZF.2.1⟩,HZF.2.2⟩
 case' round=>
  obtain⟨k,T2,I,a,cs,hk,rfl,hsm,aCv⟩:=hrel
  have yT:=Hq hsm
  have HOB:=Hq aCv
  have Rp:=Hq (hsm.kp.obj yP Aac)
  have R5:=Hq (hsm.kp.obj UW Aac)
  have Zy:=Hq (D8.trans (hsm.kp.below (λx hx=>by have:x=w.heap.size+2:=Aaf;omega) D8.size))
  have aG5:=hsm.kp.size
  clear hsm aCv
  obtain⟨c0,c1,c2,c3,c4,c5,c6,c7,c8⟩:=nine Rp
  have hnr:=aA Rp
  by_cases hlt:k < n.seen.length
  case' pos=>
   have O9:(k:Int) < (n.seen.length:Int):=Aaa
   obtain⟨g,off,b,cc,e0,hg,q0,q1,q2,hIb⟩:=iy.below HA.s Zy k hlt
   have HSN:=Hq (λx y a2 c2 gi b cc hx hi hlt2 ho hg hw=>SM.next (x:=x) (y:=y) (a2:=a2) (c2:=c2) (gi:=gi) (b:=b) (cc:=cc) yT hlt abW hx hi hlt2 ho hg hw)
   have hil:=HZ.sk _ (List.getElem_mem hlt)
   have HIB:=Hq hIb
   rw [e0] at c6
   clear hIb e0
   generalize n.seen[k]=s0 at *
   obtain⟨sf,sl,ids⟩:=s0
   dsimp only at q0 q1 q2 HSN HIB hil
   go_upto_region 11 with fail
   refine wp_at (λX1 hX=>?_)
   have e1:X1.heap[wr.heap.size]?=some (.cells #[.int .i64 sf,.int .i64 sl,.slice b ids.length cc] 110 (0,0)):=by rw [hX];exact heap_alloc_new _ _
   have e2:aI wr X1:=by rw [hX];exact ay _ _
   have E1:=Hq e1
   have E2:=Hq e2
   have afb:=aA e1
   obtain⟨s0,s1,s2⟩:=three e1
   clear hX e1 e2 q0 q1 q2 c0 c1 c2 c3 c4 c5 c6 c7 c8
   obtain⟨i0,hi,hz0,hz1,hz2⟩:=info_parts wC
   obtain⟨b2,OO,y2,hrun,hrow,hby,hq0⟩:=Ht (P:=prog) (enc:=bf) aX Aaa X1 22 3 i0 (.int .i64 0) 8 underlying22 hi hz0 hz1 hz2 rfl b ids cc (GR.At.below HIB E2) (by intro u hu;rw [Ez] at hu;obtain⟨z,_,rfl⟩:=List.mem_map.1 hu;rfl) Aai Aaa
   have hE3:=au E1 hby
   have f2:=aj hE3 2
   have hl3:=aA hE3
   obtain⟨t0,t1,t2⟩:=three hE3
   have HE3:=Hq hE3
   have IK:=Hq hby
   clear hi hz0 hz1 hz2 hby hE3
   go_upto_region 12 with(at_builtin;refine gK rfl _ _ 22 rfl _ _ rfl rfl _ _ (hrun _) ?_)
   refine wp_at (λX2 hX=>?_)
   have e3:X2.heap[wr.heap.size]?=some (.cells #[.int .i64 sf,.int .i64 sl,.slice b2 ids.length OO] 110 (0,0)):=by rw [hX];exact aR HE3 2 (.slice b2 ids.length OO)
   have e4:aI wr X2:=by
    rw [hX];exact(E2.trans (IK.mono E2.size)).setCell (p:=⟨wr.heap.size,2,none⟩) (Nat.le_refl _) _
   have hv2:aC [wr.heap.size] y2 X2:=by rw [hX];exact aC.set _
   obtain⟨_,_,g2,e5,hW2,hg2,_⟩:=GR.W.of_own (enc:=bf) aX hrow
   cases e5
   have hW3:=(WO.of_own hW2 hrow hq0).keeps hv2 (λz hz=>by have:=(hg2 z hz).1;simp;omega)
   have hg3:∀z∈fp g2 ids,wr.heap.size<=z/\z < X2.heap.size:=λz hz=>⟨by have:=(hg2 z hz).1;omega,Nat.lt_of_lt_of_le (hg2 z hz).2 hv2.size⟩
   clear hX hq0 hrow hW2 hg2 hv2 s0 s1 s2 t0 t1 t2 f2 hl3 hrun
   have IZ:=Hq (au HOB e4)
   obtain⟨c0,c1,c2,c3,c4,c5,c6,c7,c8⟩:=nine IZ
   have hl4:=aA IZ
   obtain⟨s0,s1,s2⟩:=three e3
   have hl5:=aA e3
   obtain⟨i0,hi,hz0,hz1,hz2⟩:=info_parts EU
   have aCu:=yT.len
   have hown3:=GR.own_below yT.own (e4.trans ((ay X2 (.cells #[.int .i64 sf,.int .i64 sl,.slice b2 ids.length OO] 110)).mono e4.size))
   have hblk:GR.Blk fV 110 (X2.alloc (.cells #[.int .i64 sf,.int .i64 sl,.slice b2 ids.length OO] 110)) X2.heap.size [⟨sf,sl,.slice b2 ids.length OO⟩]:=heap_alloc_new X2 _
   obtain⟨v6,y6,aCA,hown6,qz,hw6⟩:=fE (P:=prog) (enc:=fV) dK Aaa (X2.alloc (.cells #[.int .i64 sf,.int .i64 sl,.slice b2 ids.length OO] 110)) W4.heap.size 37 37 110 i0 (.agg #[.int .i64 0,.int .i64 0,.slice none 0 0]) 40 underlying37 hi hz0 hz1 hz2 rfl (.slice a k cs) k (GR.flat fV T2) hown3 (some ⟨X2.heap.size,0,none⟩) [⟨sf,sl,.slice b2 ids.length OO⟩] 1 (hblk.at dK) (by intro u hu;rw [GR.flat_one] at hu;simp only[fV,List.mem_cons,List.not_mem_nil,or_false] at hu;rcases hu with rfl|rfl|rfl<;>rfl) (by unfold maxLen;simp;omega) Aag (by have:=e4.size;simp;omega)
   rw [GR.flat_one] at hown6
   have hform:∃a6 c6,v6= .slice a6 (k+1) c6:=by
    have h6:=hown6;rw [<-GR.flat_one (enc:=fV),<-GR.flat_append] at h6;have hl6:(T2++[(⟨sf,sl,.slice b2 ids.length OO⟩:R3)]).length=k+1:=by simp[aCu]
    have h7:y6.ownsRow W4.heap.size 110 3 v6 (T2++[(⟨sf,sl,.slice b2 ids.length OO⟩:R3)]).length (GR.flat fV (T2++[⟨sf,sl,.slice b2 ids.length OO⟩])):=by rw [hl6];exact h6
    obtain⟨a6,c6',e6,_⟩:=GR.own_at (enc:=fV) (sz:=3) dK h7;rw [hl6] at e6;exact⟨a6,c6',e6⟩
   obtain⟨a6,cc6,rfl⟩:=hform
   have abV:y6.heap[w.heap.size+2]?=some (.cells (fP n.id n.par ak n.kids.length ck n.next ap n.pu.length cp ao n.out.length co a k cs n.old ar n.reqs.length cr) 40 (0,0)):=by
    rw [qz.block _ Aag (λe=>by have:=((ah yT).own.lt _ e.symm).1;omega)];exact au IZ (ay X2 _)
   have aDD:=Hq (HSN (X2.alloc (.cells #[.int .i64 sf,.int .i64 sl,.slice b2 ids.length OO] 110)) y6 a6 cc6 g2 b2 OO (e4.trans ((ay X2 _).mono e4.size)) (hW3.below (ay X2 _)) (λz hz=>⟨(hg3 z hz).1,by have:=(hg3 z hz).2;simp;omega⟩) hown6 qz hw6)
   have aDF:=Hq abV
   obtain⟨d0,d1,d2,d3,d4,d5,d6,d7,d8⟩:=nine abV
   have f6:=aj abV 6
   have hl6:=aA abV
   clear hi hz0 hz1 hz2 hown3 hblk hown6 qz hw6 abV HSN hW3 hg3 e3 e4
   go_wp2_with (at_builtin;refine gK rfl _ _ 37 rfl _ _ rfl rfl _ _ aCA ?_)
   go_roundw
   case rel=>
    exact⟨k+1,_,_,a6,cc6,Aaa,Aah,aDD,oD aDF⟩
   case measure=>simp[intOf];omega
  have hke:k=n.seen.length:=Aaa
  subst hke
  have hnlt:decide ((n.seen.length:Int) < (n.seen.length:Int))=false:=Aac
  go_upto_region 13 with fail
  refine wp_at (λW5 hWW=>?_)
  subst hWW
  obtain⟨gs,hsn⟩:=yT.done
  have HSN:=Hq hsn
  have IY:=Hq yT.kp
  clear hsn yT c0 c1 c2 c3 c4 c5 c6 c7 c8
 obtain⟨c0,c1,c2,c3,c4,c5,c6,c7,c8⟩:=nine HOB;obtain⟨d0,d1,d2,d3,d4,d5,d6,d7,d8⟩:=nine R5;have f0:=aj R5 0;have f1:=aj R5 1;have f2:=aj R5 2;have f3:=aj R5 3;have f4:=aj R5 4;have f5:=aj R5 5;have f6:=aj R5 6;have f7:=aj R5 7;have f8:=aj R5 8;have aF2:=aA HOB;have aGd:=aA R5;go_wp2_with fail;refine aW (λW' hW'=>?_)
 have e4:W'.heap[w.heap.size+1]?=some (.cells (fP n.id n.par ak n.kids.length ck n.next ap n.pu.length cp ao n.out.length co a n.seen.length cs n.old ar n.reqs.length cr) 40 (0,0)):=by
  rw [hW'];exact GR.setW_blk (fP n.id n.par ak n.kids.length ck n.next ap n.pu.length cp ao n.out.length co a n.seen.length cs n.old ar n.reqs.length cr).toList (o:=0) (xs:=gN.toList) R5
 have hso:∀x,x≠w.heap.size+1->W'.heap[x]?=W5.heap[x]?:=λx hx=>by
  rw [hW']
  exact GR.setW_other hx (fP n.id n.par ak n.kids.length ck n.next ap n.pu.length cp ao n.out.length co a n.seen.length cs n.old ar n.reqs.length cr).toList (o:=0)
 have hsz:W5.heap.size=W'.heap.size:=by rw [hW'];simp[World.setCell]
 have HBE:Hid (aI w W'):=by
  rw [hW'];exact GR.setW_below Aaa (fP n.id n.par ak n.kids.length ck n.next ap n.pu.length cp ao n.out.length co a n.seen.length cs n.old ar n.reqs.length cr).toList (o:=0) Zy
 clear hW' c0 c1 c2 c3 c4 c5 c6 c7 c8 d0 d1 d2 d3 d4 d5 d6 d7 d8 f0 f1 f2 f3 f4 f5 f6 f7 f8;obtain⟨c0,c1,c2,c3,c4,c5,c6,c7,c8⟩:=nine e4;have k0:=Nw.size;have k1:=IV.size;have k2:=IW.size;have k3:=IX.size;have k4:=IY.size;have b4:∀x,w.heap.size+2 < x->x < W4.heap.size->W'.heap[x]?=W4.heap[x]?:=λx h1 h2=>(hso x Aaa).trans (IY.block x h2 Aag)
 have b3:∀x,w.heap.size+2 < x->x < W3.heap.size->W'.heap[x]?=W3.heap[x]?:=λx h1 h2=>(b4 x h1 Aaa).trans (IX.block x h2 Aag)
 have b2:∀x,w.heap.size+2 < x->x < W2.heap.size->W'.heap[x]?=W2.heap[x]?:=λx h1 h2=>(b3 x h1 Aaa).trans (IW.block x h2 Aag)
 have b1:∀x,w.heap.size+2 < x->x < W1.heap.size->W'.heap[x]?=W1.heap[x]?:=λx h1 h2=>(b2 x h1 Aaa).trans (IV.block x h2 Aag)
 have oK:=HKW.lt;have oP:=Gi.lt;have oO:=HOW.lt;have oQ:=HQW.lt;obtain⟨sw,sg,si,snd⟩:=ah HSN;have hkW:=jd HKW (w':=W') (λx hx=>b1 x (by have:=oK x hx;omega) (oK x hx).2);have hpW:=jd Gi (w':=W') (λx hx=>b2 x (by have:=oP x hx;omega) (oP x hx).2);obtain⟨_,_,gk,ek,hWk,_,hok⟩:=GR.W.of_own (enc:=bf) aX hkW;cases ek
 obtain⟨_,_,gp,ep,hWp,_,hop⟩:=GR.W.of_own (enc:=gB) aZ hpW;cases ep
 have hSQ:=oz.blocks (w':=W') sw Aaa (λx hx=>hso x (by have:=sg x hx;omega)) (λx hx=>hso x (by have:=si x hx;omega))
 have lI:Hid (NQ W' w.heap.size n ⟨ak,ap,ao,a,ar,ck,cp,co,cs,cr⟩ ⟨gk,gp,0,gs,0,I⟩ (CK W0.heap.size W1.heap.size W2.heap.size W3.heap.size W4.heap.size gs)):=by
  refine⟨⟨hWk,hWp,kS (jd HOW (λx hx=>b3 x (by have:=oO x hx;omega) (oO x hx).2)) Aaa,hSQ.w,kS (jd HQW (λx hx=>b4 x (by have:=oQ x hx;omega) (oQ x hx).2)) Aaa,λx hx=>?_,λx hx=>?_,λx hx=>?_,λx hx=>?_,λx hx=>?_,λx hx=>?_,λx hx=>?_,snd⟩,hSQ⟩
  .unfold CK;rw [if_pos Aaa]
  .have:=oK x (hok x hx);unfold CK;rw [if_neg Aaa,if_pos Aaa]
  .have:=oP x (hop x hx);unfold CK;rw [if_neg Aaa,if_neg Aaa,if_pos Aaa]
  .have:=oO x hx;unfold CK;rw [if_neg Aaa,if_neg Aaa,if_neg Aaa,if_pos Aaa]
  .have:=sg x hx;have e:=(eD hx).1;unfold CK;rw [if_neg Aaa,if_neg Aaa,if_neg Aaa,if_neg Aaa,if_neg Aaa,if_pos e]
  .have h1:=si x hx;have e:x≠gs:=λe=>h1.2.2 (by rw [e];exact eG (by obtain⟨i,hi,_⟩:=uo hx;omega));unfold CK;rw [if_neg Aaa,if_neg Aaa,if_neg Aaa,if_neg Aaa,if_neg Aaa,if_neg e]
  .have:=oQ x hx;unfold CK;rw [if_neg Aaa,if_neg Aaa,if_neg Aaa,if_neg Aaa,if_pos Aaa]
 clear e4 hSQ hso b4 b3 b2 b1 oK oP oO oQ sw sg si snd hkW hpW hWk hWp hok hop;exact bodyPost_ret (v:= .agg (fP n.id n.par ak n.kids.length ck n.next ap n.pu.length cp ao n.out.length co a n.seen.length cs n.old ar n.reqs.length cr)) (by simp[results,results30,go_sem,c0,c1,c2,c3,c4,c5,c6,c7,c8]) rfl ⟨⟨ak,ap,ao,a,ar,ck,cp,co,cs,cr⟩,_,_,rfl,lI,HBE,HPS.1,HPS.2,HRS⟩
def rX (l:List Rq) (no:Int):Int:=if nC l no=true then(dS l no:Int) else -1
theorem Ah (n:Nd) (A:bV) (no:Int) (w:World) (hl:n.reqs.length<=1000) (hp:n.reqs.Pairwise (λs t=>s.no < t.no)) (ha:gF w A.r n.reqs):
 Calls prog 146 #[fQ n A,.int .i64 no] w (eO w (.int .i64 (rX n.reqs no))):=by
 have HA:=Hq ha;have HP:=Hq hp;have HB0:=Hq (ay w (.cells (dH n A) 40));have Nh:=Hq (heap_alloc_new w (.cells (dH n A) 40));obtain⟨R,hR⟩:∃R,rX n.reqs no=R:=⟨_,rfl⟩;have HR:=Hq hR;rw [hR];clear ha hp hR;go_in
 go_wp2_with fail;go_loopw [5] (λi wr=>∃k:Nat,k<=n.reqs.length/\i= .int .i64 k/\(∀j (hj:j < n.reqs.length),j < k->n.reqs[j].no≠no)/\Below (w.alloc (.cells (dH n A) 40)).heap.size (w.alloc (.cells (dH n A) 40)) wr) (λi _=>n.reqs.length - (intOf i).toNat)
 case atStart=>exact⟨0,Nat.zero_le _,rfl,λj _ h=>Aaa,Below.refl _ _⟩
 case round=>
  obtain⟨k,hk,rfl,hno,hbw⟩:=hrel;have lI:=Hq hno;have Rp:=Hq (au Nh hbw);have Zy:=Hq (HB0.trans (hbw.mono HB0.size));have iR:=Hq hbw;obtain⟨c0,c1,c2,c3,c4,c5,c6,c7,c8⟩:=nine Rp;have hnl:=aA Rp;clear hno hbw;by_cases hlt:k < n.reqs.length
  .have O9:(k:Int) < (n.reqs.length:Int):=Aaa
   obtain⟨g,off,e0,hg,q0,q1,q2,q3⟩:=gF.four (GR.At.below HA Zy) k hlt;rw [e0] at c8;clear e0;by_cases he:n.reqs[k].no=no
   .have HF:=Hq (Qv HP hlt he)
    have hRk:R=k:=by
     rw [<-ah HR];unfold rX;rw [if_pos (ah HF).2,(ah HF).1]
    subst hRk;rw [he] at q0;have hq:(no == no)=true:=Aac
    go_wp2_with fail;go_ret;exact⟨rfl,Zy⟩
   .have hq:(n.reqs[k].no == no)=false:=by simpa using he
    have HE:=Hq he;clear he;generalize hx:n.reqs[k].no=x0 at *;have HX:=Hq hx;clear hx;go_wp2_with fail;go_roundw
    case rel=>exact⟨k+1,Aaa,Aah,λj hj hjk=>by
     by_cases e:j=k
     .subst e;rw [ah HX];exact HE
     .exact lI j hj Aaa,iR⟩
    case measure=>simp[intOf];omega
  .have hke:k=n.reqs.length:=Aaa
   subst hke;have hnlt:decide ((n.reqs.length:Int) < (n.reqs.length:Int))=false:=Aac
   have hRk:R= -1:=by
    rw [<-ah HR];unfold rX;rw [if_neg (by rw [Yq (λq hq=>by obtain⟨j,hj,rfl⟩:=List.mem_iff_getElem.1 hq;exact ah lI j hj hj)];simp)]
   subst hRk;go_wp2_with fail;go_ret;exact⟨rfl,Zy⟩
theorem GR.own_ati {α:Type} {enc:α->List Value} {sz:Nat} {t:TypeId} {c:Nat} {l:List α} (hs:∀x,(enc x).length=sz) (h:w.ownsRow B t sz (.slice a l.length c) l.length (GR.flat enc l)):GR.At enc sz w a l:=by
 obtain⟨a',c',e,h'⟩:=GR.own_at hs h;simp only[Value.slice.injEq] at e;rw [e.1];exact h'
def Apart (c:Nat->Nat) (w w':World):Prop:=∀x,x < w.heap.size->6 < c x->w'.heap[x]?=w.heap[x]?
theorem Apart.of_below {c:Nat->Nat} {w':World} (h:aI w w'):Apart c w w':=λx hx _=>h.block x hx
theorem Apart.keeps {c:Nat->Nat} {F:List Nat} (h:Apart c w X) (hs:w.heap.size<=X.heap.size) (hk:aC F X W') (hF:∀x∈F,w.heap.size<=x\/c x<=6):Apart c w W':=λx hx hc=>(hk.block x Aaa (λhm=>by have:=hF x hm;omega)).trans (h x hx hc)
theorem Apart.step {c:Nat->Nat} (h:Apart c w X) (hs:w.heap.size<=X.heap.size) (hb:aI X W'):Apart c w W':=λx hx hc=>(hb.block x Aaa).trans (h x hx hc)
theorem Apart.grown {c:Nat->Nat} {row:Option Nat} (h:Apart c w X) (hs:w.heap.size<=X.heap.size) (hg:X.grownBy W' row) (hr:∀x,row=some x->x < w.heap.size->c x<=6):Apart c w W':=λx hx hc=>(hg.block x Aaa (λhm=>by have:=hr x hm.symm hx;omega)).trans (h x hx hc)
def Out (c:Nat->Nat) (w W' W'':World):Prop:=∃F,aC F W' W''/\∀x∈F,x < w.heap.size/\6 < c x
theorem Out.refl {c:Nat->Nat}:Out c w W' W':=⟨[],aC.refl _ _,λx hx=>Abu⟩
theorem KC.out {c:Nat->Nat} {W'':World} (h9:∀x,6 < c x->c x=9) (h:Out c w W' W''):KC (newC w.heap.size 9 c) 9 W' W'':=by
 obtain⟨F,hk,hF⟩:=h;exact KC.keeps hk (λx hx=>by rw [fq (hF x hx).1];exact h9 x (hF x hx).2)
def iF (w:World) (B:Nat) (c:Nat->Nat) (R:Nd×Int) (e:Ending) (w':World):Prop:=∃A',e= .returned (.tuple #[fQ R.1 A',.int .i64 R.2])/\(∀W'',Out c w w' W''->RM W'' A' R.1)/\Below B w w'/\Apart c w w'
theorem NQ.nine {n:Nd} {A:bV} {G:aY} {c:Nat->Nat} (h:NQ w B n A G c) (hB:B<=w.heap.size):NQ w B n A G (newC w.heap.size 9 c):=h.recol hB (λ_ hx=>fq hx)
theorem Iz (n:Nd) (A:bV) (G:aY) (c:Nat->Nat) (no:Int) (w:World) (B:Nat) (hB:B<=w.heap.size) (h9:∀x,6 < c x->c x=9) (hs:no<=n.old) (h:NQ w B n A G c):Calls prog 108 #[fQ n A,.int .i64 no] w (iF w B c (bC n no)):=by
 have hR:bC n no=(n,2):=if_pos hs;rw [hR];clear hR;unfold iF;have H9:=Hq h9;clear h9;have hbw0:=ay w (.cells (dH n A) 40);open avr in exact Vj
theorem MO (n:Nd) (A:bV) (G:aY) (c:Nat->Nat) (no:Int) (w:World) (B:Nat) (hB:B<=w.heap.size) (h9:∀x,6 < c x->c x=9) (hok:gX n=true) (hs:¬no<=n.old) (hf:nC n.reqs no=false) (h:NQ w B n A G c):Calls prog 108 #[fQ n A,.int .i64 no] w (iF w B c (bC n no)):=by
 have hR:bC n no=(n,1):=by unfold bC;rw [if_neg hs,if_pos hf]
 have hJ:rX n.reqs no= -1:=by unfold rX;rw [if_neg Abj]
 rw [hR];clear hR hf;have hp:=jc hok;have NJ:=Hq (λW1 (ha:gF W1 A.r n.reqs)=>Ah n A no W1 Aaa hp.1 ha);rw [hJ] at NJ;clear hp hok;unfold iF;have H9:=Hq h9;clear h9;have hbw0:=ay w (.cells (dH n A) 40);open avq in exact Vj
theorem QY (no:Int) (w:World) (B:Nat) (hB:B<=w.heap.size) (h9:∀x,6 < c x->c x=9) (i:Nat) (hi:i < n.reqs.length) (hok:gX n=true) (hs:¬no<=n.old) (hJ:rX n.reqs no=i) (hR:bC n no=(n,1)) (hst:n.reqs[i].s=1) (h:NQ w B n (⟨a_k,jl,dW,eH,gH,aK,bJ,aQ,aL,aU⟩:bV) G c):Calls prog 108 #[fQ n (⟨a_k,jl,dW,eH,gH,aK,bJ,aQ,aL,aU⟩:bV),.int .i64 no] w (iF w B c (bC n no)):=by
 rw [hR];open aEy in exact aAd
theorem Iw (no:Int) (w:World) (B:Nat) (hB:B<=w.heap.size) (h9:∀x,6 < c x->c x=9) (i:Nat) (hi:i < n.reqs.length) (hok:gX n=true) (hs:¬no<=n.old) (hJ:rX n.reqs no=i) (hR:bC n no=(n,0)) (hst:n.reqs[i].s=2) (h:NQ w B n (⟨a_k,jl,dW,eH,gH,aK,bJ,aQ,aL,aU⟩:bV) G c):Calls prog 108 #[fQ n (⟨a_k,jl,dW,eH,gH,aK,bJ,aQ,aL,aU⟩:bV),.int .i64 no] w (iF w B c (bC n no)):=by
 rw [hR];open aEx in exact aAd
theorem Ag (no:Int) (w:World) (B:Nat) (hB:B<=w.heap.size) (h9:∀x,6 < c x->c x=9) (i:Nat) (hi:i < n.reqs.length) (hz:eX n 1048576) (hP:∃g,jl=some ⟨g,0,none⟩) (uJ:n.pu.length<=bJ) (hok:gX n=true) (hs:¬no<=n.old) (hJ:rX n.reqs no=i) (RL:List Pu) (hR:bC n no=(n,1)) (hst:n.reqs[i].s=0) (hu:dJ n.pu n.reqs[i].k 0 1 (-1) n.reqs[i].n=(RL,false)) (h:NQ w B n (⟨a_k,jl,dW,eH,gH,aK,bJ,aQ,aL,aU⟩:bV) G c):Calls prog 108 #[fQ n (⟨a_k,jl,dW,eH,gH,aK,bJ,aQ,aL,aU⟩:bV),.int .i64 no] w (iF w B c (bC n no)):=by
 rw [hR];obtain⟨gp,hgp⟩:=hP;subst hgp;have hiI:(i:Int) < (n.reqs.length:Int):=Aaa
 have HST:=Hq hst;open aE2 in exact aAf
theorem BU (no:Int) (w:World) (B:Nat) (hB:B<=w.heap.size) (h9:∀x,6 < c x->c x=9) (i:Nat) (hi:i < n.reqs.length) (hz:eX n 1048576) (hP:∃g,jl=some ⟨g,0,none⟩) (uJ:n.pu.length<=bJ) (hok:gX n=true) (hs:¬no<=n.old) (hJ:rX n.reqs no=i) (RL:List Pu) (hR:bC n no=(eu (setPu n RL) (n.reqs.set i (oI n.reqs[i])),0)) (hst:n.reqs[i].s=0) (hu:dJ n.pu n.reqs[i].k 0 1 (-1) n.reqs[i].n=(RL,true)) (h:NQ w B n (⟨a_k,jl,dW,eH,gH,aK,bJ,aQ,aL,aU⟩:bV) G c):Calls prog 108 #[fQ n (⟨a_k,jl,dW,eH,gH,aK,bJ,aQ,aL,aU⟩:bV),.int .i64 no] w (iF w B c (bC n no)):=by
 rw [hR];obtain⟨gp,hgp⟩:=hP;subst hgp;have hiI:(i:Int) < (n.reqs.length:Int):=Aaa
 have HST:=Hq hst;open aE1 in exact aAf
theorem QZ (n:Nd) (A:bV) (G:aY) (c:Nat->Nat) (no:Int) (w:World) (B:Nat) (hB:B<=w.heap.size) (h9:∀x,6 < c x->c x=9) (hz:eX n 1048576) (hP:∃g,A.p=some ⟨g,0,none⟩) (uJ:n.pu.length<=A.cp) (hok:gX n=true) (h:NQ w B n A G c):Calls prog 108 #[fQ n A,.int .i64 no] w (iF w B c (bC n no)):=by
 by_cases hs:no<=n.old
 .exact Iz n A G c no w B hB h9 hs h
 cases hf:nC n.reqs no with
 |false=>exact MO n A G c no w B hB h9 hok hs hf h
 |true=>
  have hil:=((nT n.reqs no).1 hf).1;have hgd:n.reqs.getD (dS n.reqs no) default=n.reqs[dS n.reqs no]:=by rw [List.getD_eq_getElem?_getD,List.getElem?_eq_getElem hil];rfl
  have hJ:rX n.reqs no=(dS n.reqs no:Nat):=by unfold rX;rw [if_pos hf]
  obtain⟨_,_,_,_,b1,b2⟩:=jV ((jc hok).2.2.1 _ (List.getElem_mem hil));obtain⟨ak,ap,ao,az,ar,ck,cp,co,cs,cr⟩:=A;by_cases s1:n.reqs[dS n.reqs no].s=1
  .exact QY n ak ap ao az ar ck cp co cs cr G c no w B hB h9 _ hil hok hs hJ (by unfold bC;rw [if_neg hs,if_neg Abj,hgd,if_pos s1]) s1 h
  by_cases s2:n.reqs[dS n.reqs no].s=2
  .exact Iw n ak ap ao az ar ck cp co cs cr G c no w B hB h9 _ hil hok hs hJ (by unfold bC;rw [if_neg hs,if_neg Abj,hgd,if_neg s1,if_pos s2]) s2 h
  obtain⟨R,hR⟩:∃R,dJ n.pu n.reqs[dS n.reqs no].k 0 1 (-1) n.reqs[dS n.reqs no].n=R:=⟨_,rfl⟩;obtain⟨RL,b⟩:=R
  have hrel:bC n no=if b=true then(eu (setPu n RL) (n.reqs.set (dS n.reqs no) (oI n.reqs[dS n.reqs no])),0) else(n,1):=by
   unfold bC;rw [if_neg hs,if_neg Abj,hgd,if_neg s1,if_neg s2,hR]
  cases b with
  |false=>exact Ag n ak ap ao az ar ck cp co cs cr G c no w B hB h9 _ hil hz hP uJ hok hs hJ RL (by rw [hrel];simp) Aaa hR h
  |true=>exact BU n ak ap ao az ar ck cp co cs cr G c no w B hB h9 _ hil hz hP uJ hok hs hJ RL (by rw [hrel];simp) Aaa hR h
theorem Hu (n:Nd) (A:bV) (G:aY) (c:Nat->Nat) (K no:Int) (k:ByteArray) (nn mK mF mT mI mL:Int) (mk:ByteArray) (mN:Int) (w:World) (B:Nat) (hB:B<=w.heap.size) (h9:∀x,6 < c x->c x=9) (hs:no<=n.old) (h:NQ w B n A G c):Calls prog 107 #[fQ n A,.agg (bY K no k nn mK mF mT mI mL mk mN)] w (iF w B c (n,2)):=by
 unfold iF;have H9:=Hq h9;clear h9;have lI:=Hq (h.nine hB);clear h;go_in
 go_upto_region 1 with fail;refine wp_at (λW0 hW=>?_);obtain⟨e1,e2,e3,e4⟩:=gI w (.cells (dH n A) 40) (.cells (bY K no k nn mK mF mT mI mL mk mN) 100) (.cells gN 40);open aw2 in exact aaz
theorem Uh (K no:Int) (k:ByteArray) (nn mK mF mT mI mL:Int) (mk:ByteArray) (mN:Int) (w:World) (B:Nat) (hB:B<=w.heap.size) (h9:∀x,6 < c x->c x=9) (i:Nat) (hi:i < n.reqs.length) (hok:gX n=true) (hs:¬no<=n.old) (hJ:rX n.reqs no=i) (rq:Rq) (hrq:n.reqs[i]=rq) (h1:(rq.s == 0)=false) (h:NQ w B n (⟨a_k,jl,dW,eH,gH,aK,bJ,aQ,aL,aU⟩:bV) G c):Calls prog 107 #[fQ n (⟨a_k,jl,dW,eH,gH,aK,bJ,aQ,aL,aU⟩:bV),.agg (bY K no k nn mK mF mT mI mL mk mN)] w (iF w B c (n,1)):=by
 open aD6 in exact Yk4
theorem Ui (K no:Int) (k:ByteArray) (nn mK mF mT mI mL:Int) (mk:ByteArray) (mN:Int) (w:World) (B:Nat) (hB:B<=w.heap.size) (h9:∀x,6 < c x->c x=9) (i:Nat) (hi:i < n.reqs.length) (hok:gX n=true) (hs:¬no<=n.old) (hJ:rX n.reqs no=i) (rq:Rq) (hrq:n.reqs[i]=rq) (h1:(rq.s == 0)=true) (h2:(rq.k.toList == k.toList)=false) (h:NQ w B n (⟨a_k,jl,dW,eH,gH,aK,bJ,aQ,aL,aU⟩:bV) G c):Calls prog 107 #[fQ n (⟨a_k,jl,dW,eH,gH,aK,bJ,aQ,aL,aU⟩:bV),.agg (bY K no k nn mK mF mT mI mL mk mN)] w (iF w B c (n,1)):=by
 open aD5 in exact Yk4
theorem Uj (K no:Int) (k:ByteArray) (nn mK mF mT mI mL:Int) (mk:ByteArray) (mN:Int) (w:World) (B:Nat) (hB:B<=w.heap.size) (h9:∀x,6 < c x->c x=9) (i:Nat) (hi:i < n.reqs.length) (hok:gX n=true) (hs:¬no<=n.old) (hJ:rX n.reqs no=i) (rq:Rq) (hrq:n.reqs[i]=rq) (h1:(rq.s == 0)=true) (h2:(rq.k.toList == k.toList)=true) (h3:(rq.n == nn)=false) (h:NQ w B n (⟨a_k,jl,dW,eH,gH,aK,bJ,aQ,aL,aU⟩:bV) G c):Calls prog 107 #[fQ n (⟨a_k,jl,dW,eH,gH,aK,bJ,aQ,aL,aU⟩:bV),.agg (bY K no k nn mK mF mT mI mL mk mN)] w (iF w B c (n,1)):=by
 open aD4 in exact Yk4
theorem Uk (K no:Int) (k:ByteArray) (nn mK mF mT mI mL:Int) (mk:ByteArray) (mN:Int) (w:World) (B:Nat) (hB:B<=w.heap.size) (h9:∀x,6 < c x->c x=9) (i:Nat) (hi:i < n.reqs.length) (hok:gX n=true) (hs:¬no<=n.old) (hJ:rX n.reqs no=i) (rq:Rq) (hrq:n.reqs[i]=rq) (h1:(rq.s == 0)=true) (h2:(rq.k.toList == k.toList)=true) (h3:(rq.n == nn)=true) (h:NQ w B n (⟨a_k,jl,dW,eH,gH,aK,bJ,aQ,aL,aU⟩:bV) G c):Calls prog 107 #[fQ n (⟨a_k,jl,dW,eH,gH,aK,bJ,aQ,aL,aU⟩:bV),.agg (bY K no k nn mK mF mT mI mL mk mN)] w (iF w B c (n,0)):=by
 open aD3 in exact Yk4
end Go.Proofs.YtohmklmkjmlpjaaGreatDoor
