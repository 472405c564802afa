/- Parts. -/
import Derived.Test.YtohmklmkjmlpjaaGreatDoorRk28
namespace Go.Proofs.YtohmklmkjmlpjaaGreatDoor
open Go.Proofs.Tryz
set_option maxHeartbeats 8000000
set_option maxRecDepth 100000
open Go.RowKit
open Mth
variable {W4 wr:World} {ob cs:Nat} {l:List Sn} {T2:List R3} {I:Nat->Nat} {a:Option Addr}
theorem ab1 (a:Option Addr) (cap:Nat) (l:List Pu) (w:World) (hl:l.length<=1048600) (ha:aG w a l):
 Calls prog 80 #[.slice a l.length cap] w λe w'=>∃a' c',e= .returned (.slice a' l.length c')/\w'.ownsRow w.heap.size 108 4 (.slice a' l.length c') l.length (GR.flat gu l)/\aI w w'/\(∃g,a'=some ⟨g,0,none⟩)/\l.length<=c':=by
 obtain⟨i0,hi,hz0,hz1,hz2⟩:=info_parts EI;obtain⟨a',c',y,hrun,hrow,hby,hsm⟩:=run_copy_row (P:=prog) (enc:=gu) aW Aaa w 35 108 i0 (.agg (iW ByteArray.empty 0 0 0)) 40 underlying35 hi hz0 hz1 hz2 rfl a l cap ha (En l) Aai Aaa;have HR:=Hq hrow;have HB:=Hq hby;have yP:=Hq hsm;clear ha hi hz0 hz1 hz2 hrow hby hsm;go_in
 go_wp2_with (at_builtin;refine fZ rfl _ _ 35 rfl _ _ rfl rfl _ _ (hrun _) ?_)
 go_ret;exact⟨a',c',rfl,HR,HB,yP⟩
def Cw (s0 s1 s2 s3 s4 gs x:Nat):Nat:=if x < s0 then 0 else if x < s1 then 1 else if x < s2 then 2 else if x < s3 then 3 else if x < s4 then 6 else if x=gs then 4 else 5
structure SM (W4 wr:World) (ob k:Nat) (l:List Sn) (T2:List R3) (I:Nat->Nat) (a:Option Addr) (cs:Nat):Prop where
 len:T2.length=k
 own:wr.ownsRow W4.heap.size 110 3 (.slice a k cs) k (GR.flat fK T2)
 dn:∀i (hi:i < l.length),i < k->∃b c,T2[i]?=some ⟨l[i].f,l[i].l,.slice b l[i].ids.length c⟩/\WO wr b c (I i) l[i].ids/\∀x∈fp (I i) l[i].ids,W4.heap.size<=x/\x < wr.heap.size/\(Value.slice a k cs).ownBlock≠some x
 nd:∀i j (hi:i < l.length) (hj:j < l.length),i < j->j < k->0 < l[i].ids.length->0 < l[j].ids.length->I i≠I j
 kp:aC [ob] W4 wr
theorem SM.next {x y:World} {k:Nat} {a2:Option Addr} {c2 gi cc:Nat} {b:Option Addr} (h:SM W4 wr ob k l T2 I a cs) (hk:k < l.length) (hob:ob < W4.heap.size) (hx:aI wr x) (hi:WO x b cc gi l[k].ids) (hlt:∀z∈fp gi l[k].ids,wr.heap.size<=z/\z < x.heap.size) (ho:y.ownsRow W4.heap.size 110 3 (.slice a2 (k+1) c2) (k+1) (GR.flat fK T2++fK ⟨l[k].f,l[k].l,.slice b l[k].ids.length cc⟩)) (hg:x.grownBy y (Value.slice a k cs).ownBlock) (hw:∀z,(Value.slice a2 (k+1) c2).ownBlock=some z->(Value.slice a k cs).ownBlock=some z\/x.heap.size<=z):
 SM W4 (y.setCell ⟨ob,6,none⟩ (.slice a2 (k+1) c2)) ob (k+1) l (T2++[⟨l[k].f,l[k].l,.slice b l[k].ids.length cc⟩]) (λi=>if i=k then gi else I i) a2 c2:=by
 have hs:y.heap.size=(y.setCell ⟨ob,6,none⟩ (.slice a2 (k+1) c2)).heap.size:=Aaq
 have hkp:aC [ob] y (y.setCell ⟨ob,6,none⟩ (.slice a2 (k+1) c2)):=aC.set _;have hx1:=hx.size;have hx2:=hg.size;have hx3:=h.kp.size;have hoo:=h.own.lt;have hxy:aC (Value.slice a k cs).ownBlock.toList x y:=⟨hg.os,hg.tape,hg.output,hg.size,λz hz hne=>hg.block z hz (λe=>hne (by rw [<-e];simp))⟩;refine⟨by simp[h.len],?_,λi hi' hik=>?_,λi j hi' hj hij hjk h1 h2=>?_,?_⟩
 .rw [GR.flat_append,GR.flat_one];exact dQ ho hkp (λz hz=>by have:z=ob:=Acj;omega)
 .by_cases e:i=k
  .subst e;refine⟨b,cc,by rw [List.getElem?_append_right (by rw [h.len];exact Nat.le_refl _),h.len];simp,?_,?_⟩
   .rw [if_pos rfl];refine(hi.keeps hxy (λz hz hm=>?_)).keeps hkp (λz hz hm=>?_)
    .have h1:(Value.slice a i cs).ownBlock=some z:=Aba
     have:=(hoo z h1).2;have:=(hlt z hz).1;omega
    .have:=(hlt z hz).1;have:z=ob:=Aba;omega
   .rw [if_pos rfl];refine λz hz=>⟨by have:=(hlt z hz).1;omega,by rw [<-hs];have:=(hlt z hz).2;omega,λe2=>?_⟩
    rcases hw z e2 with h1|h1
    .have:=(hoo z h1).2;have:=(hlt z hz).1;omega
    .have:=(hlt z hz).2;omega
  .obtain⟨b',c',e1,e2,e3⟩:=h.dn i hi' Aaa;refine⟨b',c',by rw [List.getElem?_append_left (by rw [h.len];omega)];exact e1,?_,?_⟩
   .rw [if_neg e];refine((e2.below hx).keeps hxy (λz hz hm=>?_)).keeps hkp (λz hz hm=>?_)
    .exact(e3 z hz).2.2 Aba
    .have:=(e3 z hz).1;have:z=ob:=Aba;omega
   .rw [if_neg e];refine λz hz=>⟨(e3 z hz).1,by rw [<-hs];have:=(e3 z hz).2.1;omega,λe4=>?_⟩
    rcases hw z e4 with h1|h1
    .exact(e3 z hz).2.2 h1
    .have:=(e3 z hz).2.1;omega
 .by_cases ej:j=k
  .subst ej;rw [if_neg Aaa,if_pos rfl];obtain⟨_,_,_,_,e3⟩:=h.dn i hi' Aaa;have q1:=(e3 (I i) (eu h1)).2.1;have q2:=(hlt gi (eu h2)).1;omega
  .exact aiH
 .refine⟨hg.os.trans (hx.os.trans h.kp.os),hg.tape.trans (hx.tape.trans h.kp.tape),hg.output.trans (hx.output.trans h.kp.output),by rw [<-hs];omega,λz hz hm=>?_⟩;have hne:z≠ob:=Aba
  rw [Below.heap_setCell _ _ _ _ hne,hg.block z Aaa (λe=>by have:=(hoo z e.symm).1;omega),hx.block z Aaa];exact h.kp.block z hz hm
theorem SM.done (h:SM W4 wr ob l.length l T2 I a cs):∃g,oq wr a g I l/\(∀x∈fp g l,W4.heap.size<=x)/\(∀x∈wO I l,W4.heap.size<=x/\x < wr.heap.size/\x∉fp g l)/\(wO I l).Nodup:=by
 open ati in exact agi
theorem uz (n:Nd) (A:bQ) (w:World) (hz:eU n 1048576) (ha:dw w A n):
 Calls prog 30 #[gB n A] w λe w'=>∃A' G' c',e= .returned (gB n A')/\NQ w' w.heap.size n A' G' c'/\aI w w'/\(∃g,A'.p=some ⟨g,0,none⟩)/\n.pu.length<=A'.cp/\(∃g,A'.r=some ⟨g,0,none⟩)/\n.reqs.length<=A'.cr:=by
 have HZ:=Hq hz;have HA:=Hq ha;have hlk:=hz.k;have hlp:=hz.p;have hlo:=hz.o;have hls:=hz.s;have hlr:=hz.r;clear hz ha;go_in
 go_upto_region 2 with fail;refine wp_at (λW0 hW=>?_);obtain⟨e1,e2,e3,e4⟩:=fV w (.cells (dG n A) 40) (.cells iF 40) (.cells (dG n A) 40);rw [<-hW] at e1 e2 e3 e4;have wU:=Hq e1;have NA:=Hq e2;have I9:=Hq e3;have DK:=Hq e4;have hsz0:=aA e3;clear hW e1 e2 e3 e4;obtain⟨c0,c1,c2,c3,c4,c5,c6,c7,c8⟩:=nine wU;have aks:=aA wU;have aCb:=aA I9;obtain⟨i0,hi,hz0,hz1,hz2⟩:=info_parts wm;obtain⟨ak,ck,aCR,hrun,hrow,hby,_⟩:=run_copy_row (P:=prog) (enc:=aU) aQ Aaa W0 22 3 i0 (.int .i64 0) 8 underlying22 hi hz0 hz1 hz2 rfl A.k n.kids A.ck (GR.At.below HA.k DK) (by intro u hu;rw [Ep] at hu;obtain⟨z,_,rfl⟩:=List.mem_map.1 hu;rfl) Aai Aaa;clear hi hz0 hz1 hz2;have yQ:=Hq hby;obtain⟨d0,d1,d2,d3,d4,d5,d6,d7,d8⟩:=nine (au I9 hby);have f1:=aj (au I9 hby) 2;have SN:=aA (au I9 hby);clear hby;go_upto_region 3 with(at_builtin;refine fZ rfl _ _ 22 rfl _ _ rfl rfl _ _ (hrun _) ?_)
 refine wp_at (λW1 hW=>?_);have hO1:=au I9 yQ;have wV:Hid (W1.heap[w.heap.size]?=some (.cells (dG n A) 40 (0,0))):=by rw [hW];exact(Below.heap_setCell _ _ _ _ (show w.heap.size≠w.heap.size+2 by omega)).trans (au wU yQ)
 have NC:Hid (W1.heap[w.heap.size+1]?=some (.cells iF 40 (0,0))):=by rw [hW];exact(Below.heap_setCell _ _ _ _ (show w.heap.size+1≠w.heap.size+2 by omega)).trans (au NA yQ)
 have Ja:Hid (W1.heap[w.heap.size+2]?=some (.cells (iD n.id n.par ak n.kids.length ck n.next A.p n.pu.length A.cp A.o n.out.length A.co A.s n.seen.length A.cs n.old A.r n.reqs.length A.cr) 40 (0,0))):=Acu
 have DR:Hid (aI w W1):=by rw [hW];exact tq Aaa (DK.trans (yQ.mono DK.size))
 have Nr:Hid (aC [w.heap.size+2] W0 W1):=by rw [hW];exact keepsN yQ
 have UL:Hid (aC [w.heap.size+2] aCR W1):=Abe
 clear hW hO1 wU NA I9;clear c0 c1 c2 c3 c4 c5 c6 c7 c8 d0 d1 d2 d3 d4 d5 d6 d7 d8 f1 SN hrun;have HKW:Hid (W1.ownsRow W0.heap.size 3 1 (.slice ak n.kids.length ck) n.kids.length (GR.flat aU n.kids)):=dQ hrow UL (λx hx=>by have:x=w.heap.size+2:=Aaf;omega);clear hrow;obtain⟨c0,c1,c2,c3,c4,c5,c6,c7,c8⟩:=nine wV;have akt:=aA wV;have aCc:=aA Ja;go_wp2_with fail;refine(ab1 A.p A.cp n.pu W1 Aaa (GR.At.below HA.p DR)).mono ?_;rintro e aCS ⟨ap,cp,rfl,hrow,hby,hsm⟩;have HPS:=Hq hsm;clear hsm;have yR:=Hq hby;obtain⟨d0,d1,d2,d3,d4,d5,d6,d7,d8⟩:=nine (au Ja hby);have f1:=aj (au Ja hby) 4;have SN:=aA (au Ja hby);clear hby c0 c1 c2 c3 c4 c5 c6 c7 c8;go_upto_region 4 with fail;refine wp_at (λW2 hW=>?_);have hO1:=au Ja yR;have wW:Hid (W2.heap[w.heap.size]?=some (.cells (dG n A) 40 (0,0))):=by rw [hW];exact(Below.heap_setCell _ _ _ _ (show w.heap.size≠w.heap.size+2 by omega)).trans (au wV yR)
 have ND:Hid (W2.heap[w.heap.size+1]?=some (.cells iF 40 (0,0))):=by rw [hW];exact(Below.heap_setCell _ _ _ _ (show w.heap.size+1≠w.heap.size+2 by omega)).trans (au NC yR)
 have Jb:Hid (W2.heap[w.heap.size+2]?=some (.cells (iD n.id n.par ak n.kids.length ck n.next ap n.pu.length cp A.o n.out.length A.co A.s n.seen.length A.cs n.old A.r n.reqs.length A.cr) 40 (0,0))):=Acu
 have DU:Hid (aI w W2):=by rw [hW];exact tq Aaa (DR.trans (yR.mono DR.size))
 have IX:Hid (aC [w.heap.size+2] W1 W2):=by rw [hW];exact keepsN yR
 have UN:Hid (aC [w.heap.size+2] aCS W2):=Abe
 clear hW hO1 wV NC Ja;clear d0 d1 d2 d3 d4 d5 d6 d7 d8 f1 SN;have Gg:Hid (W2.ownsRow W1.heap.size 108 4 (.slice ap n.pu.length cp) n.pu.length (GR.flat gu n.pu)):=dQ hrow UN (λx hx=>by have:x=w.heap.size+2:=Aaf;omega);clear hrow;obtain⟨c0,c1,c2,c3,c4,c5,c6,c7,c8⟩:=nine wW;have aku:=aA wW;have aCd:=aA Jb;obtain⟨i0,hi,hz0,hz1,hz2⟩:=info_parts EL;obtain⟨ao,co,aCT,hrun,hrow,hby,_⟩:=run_copy_row (P:=prog) (enc:=aS) bH Aaa W2 36 91 i0 (.agg (gJ 0 0 ByteArray.empty 0)) 40 underlying36 hi hz0 hz1 hz2 rfl A.o n.out A.co (GR.At.below HA.o DU) (Cb _) Aai Aaa;clear hi hz0 hz1 hz2;have yS:=Hq hby;obtain⟨d0,d1,d2,d3,d4,d5,d6,d7,d8⟩:=nine (au Jb hby);have f1:=aj (au Jb hby) 5;have SN:=aA (au Jb hby);clear hby;go_upto_region 5 with(at_builtin;refine fZ rfl _ _ 36 rfl _ _ rfl rfl _ _ (hrun _) ?_)
 refine wp_at (λW3 hW=>?_);have hO1:=au Jb yS;have wX:Hid (W3.heap[w.heap.size]?=some (.cells (dG n A) 40 (0,0))):=by rw [hW];exact(Below.heap_setCell _ _ _ _ (show w.heap.size≠w.heap.size+2 by omega)).trans (au wW yS)
 have NH:Hid (W3.heap[w.heap.size+1]?=some (.cells iF 40 (0,0))):=by rw [hW];exact(Below.heap_setCell _ _ _ _ (show w.heap.size+1≠w.heap.size+2 by omega)).trans (au ND yS)
 have Jc:Hid (W3.heap[w.heap.size+2]?=some (.cells (iD n.id n.par ak n.kids.length ck n.next ap n.pu.length cp ao n.out.length co A.s n.seen.length A.cs n.old A.r n.reqs.length A.cr) 40 (0,0))):=Acu
 have IV:Hid (aI w W3):=by rw [hW];exact tq Aaa (DU.trans (yS.mono DU.size))
 have IY:Hid (aC [w.heap.size+2] W2 W3):=by rw [hW];exact keepsN yS
 have Zu:Hid (aC [w.heap.size+2] aCT W3):=Abe
 clear hW hO1 wW ND Jb;clear c0 c1 c2 c3 c4 c5 c6 c7 c8 d0 d1 d2 d3 d4 d5 d6 d7 d8 f1 SN hrun;have HOW:Hid (W3.ownsRow W2.heap.size 91 4 (.slice ao n.out.length co) n.out.length (GR.flat aS n.out)):=dQ hrow Zu (λx hx=>by have:x=w.heap.size+2:=Aaf;omega);clear hrow;obtain⟨c0,c1,c2,c3,c4,c5,c6,c7,c8⟩:=nine wX;have akv:=aA wX;have aCe:=aA Jc;obtain⟨i0,hi,hz0,hz1,hz2⟩:=info_parts zB;obtain⟨ar,cr,aCU,hrun,hrow,hby,hsr⟩:=run_copy_row (P:=prog) (enc:=aL) aR Aaa W3 38 95 i0 (.agg (fA 0 ByteArray.empty 0 0)) 40 underlying38 hi hz0 hz1 hz2 rfl A.r n.reqs A.cr (GR.At.below HA.r IV) (jc _) Aai Aaa;clear hi hz0 hz1 hz2;have HRS:=Hq hsr;clear hsr;have NK:=Hq hby;obtain⟨d0,d1,d2,d3,d4,d5,d6,d7,d8⟩:=nine (au Jc hby);have f1:=aj (au Jc hby) 8;have SN:=aA (au Jc hby);clear hby;go_upto_region 6 with(at_builtin;refine fZ rfl _ _ 38 rfl _ _ rfl rfl _ _ (hrun _) ?_)
 refine wp_at (λW4 hW=>?_);have hO1:=au Jc NK;have yN:Hid (W4.heap[w.heap.size]?=some (.cells (dG n A) 40 (0,0))):=by rw [hW];exact(Below.heap_setCell _ _ _ _ (show w.heap.size≠w.heap.size+2 by omega)).trans (au wX NK)
 have UK:Hid (W4.heap[w.heap.size+1]?=some (.cells iF 40 (0,0))):=by rw [hW];exact(Below.heap_setCell _ _ _ _ (show w.heap.size+1≠w.heap.size+2 by omega)).trans (au NH NK)
 have UJ:Hid (W4.heap[w.heap.size+2]?=some (.cells (iD n.id n.par ak n.kids.length ck n.next ap n.pu.length cp ao n.out.length co A.s n.seen.length A.cs n.old ar n.reqs.length cr) 40 (0,0))):=Acu
 have DV:Hid (aI w W4):=by rw [hW];exact tq Aaa (IV.trans (NK.mono IV.size))
 have IZ:Hid (aC [w.heap.size+2] W3 W4):=by rw [hW];exact keepsN NK
 have al0:Hid (aC [w.heap.size+2] aCU W4):=Abe
 clear hW hO1 wX NH Jc;clear c0 c1 c2 c3 c4 c5 c6 c7 c8 d0 d1 d2 d3 d4 d5 d6 d7 d8 f1 SN hrun;have HQW:Hid (W4.ownsRow W3.heap.size 95 4 (.slice ar n.reqs.length cr) n.reqs.length (GR.flat aL n.reqs)):=dQ hrow al0 (λx hx=>by have:x=w.heap.size+2:=Aaf;omega);clear hrow;obtain⟨c0,c1,c2,c3,c4,c5,c6,c7,c8⟩:=nine yN;have akw:=aA yN;have abn:=aA UJ;obtain⟨d0,d1,d2,d3,d4,d5,d6,d7,d8⟩:=nine UJ;have f6:=aj UJ 6;go_upto_region 7 with fail;refine wp_at (λZ hZ=>?_);have aew:(W4.setCell ⟨w.heap.size+2,6,none⟩ (.slice (some ⟨W4.heap.size,0,none⟩) 0 0)).heap.size=W4.heap.size:=Aaq
 have hZo:Z.ownsRow W4.heap.size 110 3 (.slice (some ⟨W4.heap.size,0,none⟩) 0 0) 0 []:=by
  have hlit:=World.ownsRow_lit (base:=W4.heap.size) (e:=110) (size:=3) (W4.setCell ⟨w.heap.size+2,6,none⟩ (.slice (some ⟨W4.heap.size,0,none⟩) 0 0)) #[] 0 (by rw [aew];exact Nat.le_refl _) Aai Aac;rw [aew] at hlit;rw [hZ];exact hlit
 have hZk:aC [w.heap.size+2] W4 Z:=by rw [hZ];exact(aC.set _).trans (aC.of_below (ay _ _))
 have hZb:Z.heap[w.heap.size+2]?=some (.cells (iD n.id n.par ak n.kids.length ck n.next ap n.pu.length cp ao n.out.length co (some ⟨W4.heap.size,0,none⟩) 0 0 n.old ar n.reqs.length cr) 40 (0,0)):=by
  rw [hZ];exact(Below.heap_alloc _ _ _ (by rw [aew];exact abn)).trans (ow UJ)
 have HZF:=Hq (And.intro hZo (And.intro hZk hZb));clear hZ aew hZo hZk hZb c0 c1 c2 c3 c4 c5 c6 c7 c8 d0 d1 d2 d3 d4 d5 d6 d7 d8 f6;go_wp2_with fail;go_loopw [4] (λi wr=>∃(k:Nat) (T2:List R3) (I:Nat->Nat) (a:Option Addr) (cs:Nat),k<=n.seen.length/\i= .int .i64 k/\SM W4 wr (w.heap.size+2) k n.seen T2 I a cs/\wr.heap[w.heap.size+2]?=some (.cells (iD n.id n.par ak n.kids.length ck n.next ap n.pu.length cp ao n.out.length co a k cs n.old ar n.reqs.length cr) 40 (0,0))) (λi _=>n.seen.length - (intOf i).toNat)
 case atStart=>
  exact⟨0,[],λ_=>0,some ⟨W4.heap.size,0,none⟩,0,Nat.zero_le _,rfl,⟨rfl,HZF.1,λi hi h=>Aaa,λi j _ _ _ h=>Aaa,HZF.2.1⟩,HZF.2.2⟩
 case' round=>
  obtain⟨k,T2,I,a,cs,hk,rfl,hsm,ayn⟩:=hrel
  have yP:=Hq hsm
  have HOB:=Hq ayn
  have Rb:=Hq (hsm.kp.obj yN Aac)
  have Ry:=Hq (hsm.kp.obj UK Aac)
  have YX:=Hq (DV.trans (hsm.kp.below (λx hx=>by have:x=w.heap.size+2:=Aaf;omega) DV.size))
  have aC8:=hsm.kp.size
  clear hsm ayn
  obtain⟨c0,c1,c2,c3,c4,c5,c6,c7,c8⟩:=nine Rb
  have hnr:=aA Rb
  by_cases hlt:k < n.seen.length
  case' pos=>
   have OU:(k:Int) < (n.seen.length:Int):=Aaa
   obtain⟨g,off,b,cc,e0,hg,q0,q1,q2,hIb⟩:=gZ.below HA.s YX k hlt
   have HSN:=Hq (λx y a2 c2 gi b cc hx hi hlt2 ho hg hw=>SM.next (x:=x) (y:=y) (a2:=a2) (c2:=c2) (gi:=gi) (b:=b) (cc:=cc) yP hlt abn hx hi hlt2 ho hg hw)
   have hil:=HZ.sk _ (List.getElem_mem hlt)
   have HIB:=Hq hIb
   rw [e0] at c6
   clear hIb e0
   generalize n.seen[k]=s0 at *
   obtain⟨sf,sl,ids⟩:=s0
   dsimp only at q0 q1 q2 HSN HIB hil
   go_upto_region 11 with fail
   refine wp_at (λX1 hX=>?_)
   have e1:X1.heap[wr.heap.size]?=some (.cells #[.int .i64 sf,.int .i64 sl,.slice b ids.length cc] 110 (0,0)):=by rw [hX];exact heap_alloc_new _ _
   have e2:aI wr X1:=by rw [hX];exact ay _ _
   have E1:=Hq e1
   have E2:=Hq e2
   have aey:=aA e1
   obtain⟨s0,s1,s2⟩:=three e1
   clear hX e1 e2 q0 q1 q2 c0 c1 c2 c3 c4 c5 c6 c7 c8
   obtain⟨i0,hi,hz0,hz1,hz2⟩:=info_parts wm
   obtain⟨b2,Oz,y2,hrun,hrow,hby,hq0⟩:=Hw (P:=prog) (enc:=aU) aQ Aaa X1 22 3 i0 (.int .i64 0) 8 underlying22 hi hz0 hz1 hz2 rfl b ids cc (GR.At.below HIB E2) (by intro u hu;rw [Ep] at hu;obtain⟨z,_,rfl⟩:=List.mem_map.1 hu;rfl) Aai Aaa
   have hE3:=au E1 hby
   have f2:=aj hE3 2
   have hl3:=aA hE3
   obtain⟨t0,t1,t2⟩:=three hE3
   have HE3:=Hq hE3
   have IU:=Hq hby
   clear hi hz0 hz1 hz2 hby hE3
   go_upto_region 12 with(at_builtin;refine fZ rfl _ _ 22 rfl _ _ rfl rfl _ _ (hrun _) ?_)
   refine wp_at (λX2 hX=>?_)
   have e3:X2.heap[wr.heap.size]?=some (.cells #[.int .i64 sf,.int .i64 sl,.slice b2 ids.length Oz] 110 (0,0)):=by rw [hX];exact aN HE3 2 (.slice b2 ids.length Oz)
   have e4:aI wr X2:=by
    rw [hX];exact(E2.trans (IU.mono E2.size)).setCell (p:=⟨wr.heap.size,2,none⟩) (Nat.le_refl _) _
   have hv2:aC [wr.heap.size] y2 X2:=by rw [hX];exact aC.set _
   obtain⟨_,_,g2,e5,hW2,hg2,_⟩:=GR.W.of_own (enc:=aU) aQ hrow
   cases e5
   have hW3:=(WO.of_own hW2 hrow hq0).keeps hv2 (λz hz=>by have:=(hg2 z hz).1;simp;omega)
   have hg3:∀z∈fp g2 ids,wr.heap.size<=z/\z < X2.heap.size:=λz hz=>⟨by have:=(hg2 z hz).1;omega,Nat.lt_of_lt_of_le (hg2 z hz).2 hv2.size⟩
   clear hX hq0 hrow hW2 hg2 hv2 s0 s1 s2 t0 t1 t2 f2 hl3 hrun
   have I8:=Hq (au HOB e4)
   obtain⟨c0,c1,c2,c3,c4,c5,c6,c7,c8⟩:=nine I8
   have hl4:=aA I8
   obtain⟨s0,s1,s2⟩:=three e3
   have hl5:=aA e3
   obtain⟨i0,hi,hz0,hz1,hz2⟩:=info_parts EJ
   have aym:=yP.len
   have hown3:=GR.own_below yP.own (e4.trans ((ay X2 (.cells #[.int .i64 sf,.int .i64 sl,.slice b2 ids.length Oz] 110)).mono e4.size))
   have hblk:GR.Blk fK 110 (X2.alloc (.cells #[.int .i64 sf,.int .i64 sl,.slice b2 ids.length Oz] 110)) X2.heap.size [⟨sf,sl,.slice b2 ids.length Oz⟩]:=heap_alloc_new X2 _
   obtain⟨v6,y6,ays,hown6,qx,hw6⟩:=fQ (P:=prog) (enc:=fK) dK Aaa (X2.alloc (.cells #[.int .i64 sf,.int .i64 sl,.slice b2 ids.length Oz] 110)) W4.heap.size 37 37 110 i0 (.agg #[.int .i64 0,.int .i64 0,.slice none 0 0]) 40 underlying37 hi hz0 hz1 hz2 rfl (.slice a k cs) k (GR.flat fK T2) hown3 (some ⟨X2.heap.size,0,none⟩) [⟨sf,sl,.slice b2 ids.length Oz⟩] 1 (hblk.at dK) (by intro u hu;rw [GR.flat_one] at hu;simp only[fK,List.mem_cons,List.not_mem_nil,or_false] at hu;rcases hu with rfl|rfl|rfl<;>rfl) (by unfold maxLen;simp;omega) Aag (by have:=e4.size;simp;omega)
   rw [GR.flat_one] at hown6
   have hform:∃a6 c6,v6= .slice a6 (k+1) c6:=by
    have h6:=hown6;rw [<-GR.flat_one (enc:=fK),<-GR.flat_append] at h6;have hl6:(T2++[(⟨sf,sl,.slice b2 ids.length Oz⟩:R3)]).length=k+1:=by simp[aym]
    have h7:y6.ownsRow W4.heap.size 110 3 v6 (T2++[(⟨sf,sl,.slice b2 ids.length Oz⟩:R3)]).length (GR.flat fK (T2++[⟨sf,sl,.slice b2 ids.length Oz⟩])):=by rw [hl6];exact h6
    obtain⟨a6,c6',e6,_⟩:=GR.own_at (enc:=fK) (sz:=3) dK h7;rw [hl6] at e6;exact⟨a6,c6',e6⟩
   obtain⟨a6,cc6,rfl⟩:=hform
   have abm:y6.heap[w.heap.size+2]?=some (.cells (iD n.id n.par ak n.kids.length ck n.next ap n.pu.length cp ao n.out.length co a k cs n.old ar n.reqs.length cr) 40 (0,0)):=by
    rw [qx.block _ Aag (λe=>by have:=((ah yP).own.lt _ e.symm).1;omega)];exact au I8 (ay X2 _)
   have azH:=Hq (HSN (X2.alloc (.cells #[.int .i64 sf,.int .i64 sl,.slice b2 ids.length Oz] 110)) y6 a6 cc6 g2 b2 Oz (e4.trans ((ay X2 _).mono e4.size)) (hW3.below (ay X2 _)) (λz hz=>⟨(hg3 z hz).1,by have:=(hg3 z hz).2;simp;omega⟩) hown6 qx hw6)
   have azJ:=Hq abm
   obtain⟨d0,d1,d2,d3,d4,d5,d6,d7,d8⟩:=nine abm
   have f6:=aj abm 6
   have hl6:=aA abm
   clear hi hz0 hz1 hz2 hown3 hblk hown6 qx hw6 abm HSN hW3 hg3 e3 e4
   go_wp2_with (at_builtin;refine fZ rfl _ _ 37 rfl _ _ rfl rfl _ _ ays ?_)
   go_roundw
   case rel=>
    exact⟨k+1,_,_,a6,cc6,Aaa,Aah,azH,ow azJ⟩
   case measure=>simp[intOf];omega
  have hke:k=n.seen.length:=Aaa
  subst hke
  have hnlt:decide ((n.seen.length:Int) < (n.seen.length:Int))=false:=Aac
  go_upto_region 13 with fail
  refine wp_at (λW5 hWW=>?_)
  subst hWW
  obtain⟨gs,hsn⟩:=yP.done
  have HSN:=Hq hsn
  have I7:=Hq yP.kp
  clear hsn yP c0 c1 c2 c3 c4 c5 c6 c7 c8
 obtain⟨c0,c1,c2,c3,c4,c5,c6,c7,c8⟩:=nine HOB;obtain⟨d0,d1,d2,d3,d4,d5,d6,d7,d8⟩:=nine Ry;have f0:=aj Ry 0;have f1:=aj Ry 1;have f2:=aj Ry 2;have f3:=aj Ry 3;have f4:=aj Ry 4;have f5:=aj Ry 5;have f6:=aj Ry 6;have f7:=aj Ry 7;have f8:=aj Ry 8;have aB7:=aA HOB;have aCh:=aA Ry;go_wp2_with fail;refine aO (λW' hW'=>?_)
 have e4:W'.heap[w.heap.size+1]?=some (.cells (iD n.id n.par ak n.kids.length ck n.next ap n.pu.length cp ao n.out.length co a n.seen.length cs n.old ar n.reqs.length cr) 40 (0,0)):=by
  rw [hW'];exact GR.setW_blk (iD n.id n.par ak n.kids.length ck n.next ap n.pu.length cp ao n.out.length co a n.seen.length cs n.old ar n.reqs.length cr).toList (o:=0) (xs:=iF.toList) Ry
 have hso:∀x,x≠w.heap.size+1->W'.heap[x]?=W5.heap[x]?:=λx hx=>by
  rw [hW']
  exact GR.setW_other hx (iD n.id n.par ak n.kids.length ck n.next ap n.pu.length cp ao n.out.length co a n.seen.length cs n.old ar n.reqs.length cr).toList (o:=0)
 have hsz:W5.heap.size=W'.heap.size:=by rw [hW'];simp[World.setCell]
 have HBE:Hid (aI w W'):=by
  rw [hW'];exact GR.setW_below Aaa (iD n.id n.par ak n.kids.length ck n.next ap n.pu.length cp ao n.out.length co a n.seen.length cs n.old ar n.reqs.length cr).toList (o:=0) YX
 clear hW' c0 c1 c2 c3 c4 c5 c6 c7 c8 d0 d1 d2 d3 d4 d5 d6 d7 d8 f0 f1 f2 f3 f4 f5 f6 f7 f8;obtain⟨c0,c1,c2,c3,c4,c5,c6,c7,c8⟩:=nine e4;have k0:=Nr.size;have k1:=IX.size;have k2:=IY.size;have k3:=IZ.size;have k4:=I7.size;have b4:∀x,w.heap.size+2 < x->x < W4.heap.size->W'.heap[x]?=W4.heap[x]?:=λx h1 h2=>(hso x Aaa).trans (I7.block x h2 Aag)
 have b3:∀x,w.heap.size+2 < x->x < W3.heap.size->W'.heap[x]?=W3.heap[x]?:=λx h1 h2=>(b4 x h1 Aaa).trans (IZ.block x h2 Aag)
 have b2:∀x,w.heap.size+2 < x->x < W2.heap.size->W'.heap[x]?=W2.heap[x]?:=λx h1 h2=>(b3 x h1 Aaa).trans (IY.block x h2 Aag)
 have b1:∀x,w.heap.size+2 < x->x < W1.heap.size->W'.heap[x]?=W1.heap[x]?:=λx h1 h2=>(b2 x h1 Aaa).trans (IX.block x h2 Aag)
 have oK:=HKW.lt;have oP:=Gg.lt;have oO:=HOW.lt;have oQ:=HQW.lt;obtain⟨sw,sg,si,snd⟩:=ah HSN;have hkW:=jm HKW (w':=W') (λx hx=>b1 x (by have:=oK x hx;omega) (oK x hx).2);have hpW:=jm Gg (w':=W') (λx hx=>b2 x (by have:=oP x hx;omega) (oP x hx).2);obtain⟨_,_,gk,ek,hWk,_,hok⟩:=GR.W.of_own (enc:=aU) aQ hkW;cases ek
 obtain⟨_,_,gp,ep,hWp,_,hop⟩:=GR.W.of_own (enc:=gu) aW hpW;cases ep
 have hSQ:=oq.blocks (w':=W') sw Aaa (λx hx=>hso x (by have:=sg x hx;omega)) (λx hx=>hso x (by have:=si x hx;omega))
 have l7:Hid (NQ W' w.heap.size n ⟨ak,ap,ao,a,ar,ck,cp,co,cs,cr⟩ ⟨gk,gp,0,gs,0,I⟩ (Cw W0.heap.size W1.heap.size W2.heap.size W3.heap.size W4.heap.size gs)):=by
  refine⟨⟨hWk,hWp,kK (jm HOW (λx hx=>b3 x (by have:=oO x hx;omega) (oO x hx).2)) Aaa,hSQ.w,kK (jm HQW (λx hx=>b4 x (by have:=oQ x hx;omega) (oQ x hx).2)) Aaa,λx hx=>?_,λx hx=>?_,λx hx=>?_,λx hx=>?_,λx hx=>?_,λx hx=>?_,λx hx=>?_,snd⟩,hSQ⟩
  .unfold Cw;rw [if_pos Aaa]
  .have:=oK x (hok x hx);unfold Cw;rw [if_neg Aaa,if_pos Aaa]
  .have:=oP x (hop x hx);unfold Cw;rw [if_neg Aaa,if_neg Aaa,if_pos Aaa]
  .have:=oO x hx;unfold Cw;rw [if_neg Aaa,if_neg Aaa,if_neg Aaa,if_pos Aaa]
  .have:=sg x hx;have e:=(dY hx).1;unfold Cw;rw [if_neg Aaa,if_neg Aaa,if_neg Aaa,if_neg Aaa,if_neg Aaa,if_pos e]
  .have h1:=si x hx;have e:x≠gs:=λe=>h1.2.2 (by rw [e];exact eu (by obtain⟨i,hi,_⟩:=uh hx;omega));unfold Cw;rw [if_neg Aaa,if_neg Aaa,if_neg Aaa,if_neg Aaa,if_neg Aaa,if_neg e]
  .have:=oQ x hx;unfold Cw;rw [if_neg Aaa,if_neg Aaa,if_neg Aaa,if_neg Aaa,if_pos Aaa]
 clear e4 hSQ hso b4 b3 b2 b1 oK oP oO oQ sw sg si snd hkW hpW hWk hWp hok hop;exact bodyPost_ret (v:= .agg (iD n.id n.par ak n.kids.length ck n.next ap n.pu.length cp ao n.out.length co a n.seen.length cs n.old ar n.reqs.length cr)) (by simp[results,results30,go_sem,c0,c1,c2,c3,c4,c5,c6,c7,c8]) rfl ⟨⟨ak,ap,ao,a,ar,ck,cp,co,cs,cr⟩,_,_,rfl,l7,HBE,HPS.1,HPS.2,HRS⟩
end Go.Proofs.YtohmklmkjmlpjaaGreatDoor
