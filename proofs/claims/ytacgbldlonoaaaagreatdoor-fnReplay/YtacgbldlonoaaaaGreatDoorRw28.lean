/- Parts. -/
import Derived.Test.YtacgbldlonoaaaaGreatDoorRw26
import Derived.Test.YtacgbldlonoaaaaGreatDoorRw27
namespace Go.Proofs.YtacgbldlonoaaaaGreatDoor
open Go.Proofs.Tryz
set_option maxHeartbeats 8000000
open Go.RowKit
open Mth
variable {i ob cs:Nat} {n:Nd} {m:Mg} {s0:Sn} {W4 wr:World} {l:List Sn} {T2:List R3} {I:Nat->Nat} {a:Option Addr}
theorem Pb (z:Int):∀(l:List Rq) (i:Nat) (hi:i < l.length),(GR.flat aN l).set (i*4+3) (.int .i64 z)=GR.flat aN (l.set i ⟨l[i].no,l[i].k,l[i].n,z⟩):=by
 intro l;induction l with
 |nil=>intro i hi;simp at hi
 |cons x r ih=>
  intro i hi
  cases i with
  |zero=>rfl
  |succ i=>
   have hi2:i < r.length:=Aaq
   have h1:=ih i hi2
   show(aN x++GR.flat aN r).set ((i+1)*4+3) (.int .i64 z)=aN x++GR.flat aN (r.set i ⟨r[i].no,r[i].k,r[i].n,z⟩)
   rw [<-h1,List.set_append_right _ _ (by show 4<=_;omega)]
   congr 2
   show(i+1)*4+3 - 4=_
   omega
theorem uq (s:lJ):∀u∈aW s,u.oneCell'=true:=by
 intro u hu;simp only[aW,List.mem_cons,List.not_mem_nil,or_false] at hu;rcases hu with rfl|rfl|rfl|rfl<;>rfl
theorem BN (k:ByteArray) (m f s:Int) (w:World):(Instr.field 143 (.agg (iM k m f s)) 2).run prog w= .ok (.int .i64 f) w:=Aab
theorem Es:(prog.info? 95).map (λi=>(i.zero,i.size,i.bytes))=some (some (.agg (fI 0 0 ByteArray.empty 0)),4,40):=Aab
theorem aa9 {w:World} {g h:Nat} {u b0 b1 b2 b3 b4 b5 b6 b7 b8:Value} (hne:g≠h) (e:w.cell? ⟨h,i,none⟩=some u):
 (((((((((w.setCell ⟨g,0,none⟩ b0).setCell ⟨g,1,none⟩ b1).setCell ⟨g,2,none⟩ b2).setCell ⟨g,3,none⟩ b3).setCell ⟨g,4,none⟩ b4).setCell ⟨g,5,none⟩ b5).setCell ⟨g,6,none⟩ b6).setCell ⟨g,7,none⟩ b7).setCell ⟨g,8,none⟩ b8).cell? ⟨h,i,none⟩=some u:=by
 rw [World.cell?_setCell_far _ _ _ _ hne,World.cell?_setCell_far _ _ _ _ hne,World.cell?_setCell_far _ _ _ _ hne,World.cell?_setCell_far _ _ _ _ hne,World.cell?_setCell_far _ _ _ _ hne,World.cell?_setCell_far _ _ _ _ hne,World.cell?_setCell_far _ _ _ _ hne,World.cell?_setCell_far _ _ _ _ hne,World.cell?_setCell_far _ _ _ _ hne];exact e
theorem JH {l:List Pu} {key:ByteArray} {dm df ds n:Int} (h:(dJ l key dm df ds n).2=false):(dJ l key dm df ds n).1=l:=by
 exact ah3
theorem Gw (hi:i < n.seen.length) (e:iG n.seen m.F=i) (hs:n.seen[i]=s0) (h:sQ s0 m.L m.I=false) (hg:mY n s0 m=true):takeN n m=(dA (setPu n (dJ n.pu m.k 0 1 0 m.N).1) (n.seen.set i ⟨m.F,eZ s0 m.L,mQ (bg s0 m.L) m.I⟩),true):=by
 subst e hs;unfold takeN;rw [Ew hi,if_neg Abu,if_pos hg]
theorem Kv (hi:i < n.seen.length) (e:iG n.seen m.F=i) (hs:n.seen[i]=s0) (h:sQ s0 m.L m.I=true):takeN n m=(dA n (n.seen.set i ⟨m.F,eZ s0 m.L,bg s0 m.L⟩),true):=by
 subst e hs;unfold takeN;rw [Ew hi,if_pos h]
theorem Q8 (hi:i < n.seen.length) (e:iG n.seen m.F=i) (hs:n.seen[i]=s0) (h:sQ s0 m.L m.I=false) (hg:mY n s0 m=false):takeN n m=(dA n (n.seen.set i ⟨m.F,eZ s0 m.L,bg s0 m.L⟩),false):=by
 subst e hs;unfold takeN;rw [Ew hi,if_neg Abu,if_neg (by rw [hg];simp)]
set_option maxRecDepth 100000
theorem ab4 (a:Option Addr) (cap:Nat) (l:List Pu) (w:World) (hl:l.length<=1048600) (ha:aI w a l):
 Calls prog 114 #[.slice a l.length cap] w λe w'=>∃a' c',e= .returned (.slice a' l.length c')/\w'.ownsRow w.heap.size 143 4 (.slice a' l.length c') l.length (GR.flat fH l)/\aY w w'/\(∃g,a'=some ⟨g,0,none⟩)/\l.length<=c':=by
 obtain⟨i0,hi,hz0,hz1,hz2⟩:=info_parts Cm;obtain⟨a',c',y,hrun,hrow,hby,hsm⟩:=run_copy_row (P:=prog) (enc:=fH) aX Aaa w 25 143 i0 (.agg (iM ByteArray.empty 0 0 0)) 40 underlying25 hi hz0 hz1 hz2 rfl a l cap ha (zF l) Aah Aaa;have HR:=Hq hrow;have HB:=Hq hby;have YX:=Hq hsm;clear ha hi hz0 hz1 hz2 hrow hby hsm;go_in
 go_wp2_with (at_builtin;refine gu rfl _ _ 25 rfl _ _ rfl rfl _ _ (hrun _) ?_)
 go_ret;exact⟨a',c',rfl,HR,HB,YX⟩
def Dj (s0 s1 s2 s3 s4 gs x:Nat):Nat:=if x < s0 then 0 else if x < s1 then 1 else if x < s2 then 2 else if x < s3 then 3 else if x < s4 then 6 else if x=gs then 4 else 5
structure SM (W4 wr:World) (ob k:Nat) (l:List Sn) (T2:List R3) (I:Nat->Nat) (a:Option Addr) (cs:Nat):Prop where
 len:T2.length=k
 own:wr.ownsRow W4.heap.size 90 3 (.slice a k cs) k (GR.flat eP T2)
 dn:∀i (hi:i < l.length),i < k->∃b c,T2[i]?=some ⟨l[i].f,l[i].l,.slice b l[i].ids.length c⟩/\WO wr b c (I i) l[i].ids/\∀x∈fp (I i) l[i].ids,W4.heap.size<=x/\x < wr.heap.size/\(Value.slice a k cs).ownBlock≠some x
 nd:∀i j (hi:i < l.length) (hj:j < l.length),i < j->j < k->0 < l[i].ids.length->0 < l[j].ids.length->I i≠I j
 kp:aC [ob] W4 wr
theorem SM.next {x y:World} {k:Nat} {a2:Option Addr} {c2 gi cc:Nat} {b:Option Addr} (h:SM W4 wr ob k l T2 I a cs) (hk:k < l.length) (hob:ob < W4.heap.size) (hx:aY wr x) (hi:WO x b cc gi l[k].ids) (hlt:∀z∈fp gi l[k].ids,wr.heap.size<=z/\z < x.heap.size) (ho:y.ownsRow W4.heap.size 90 3 (.slice a2 (k+1) c2) (k+1) (GR.flat eP T2++eP ⟨l[k].f,l[k].l,.slice b l[k].ids.length cc⟩)) (hg:x.grownBy y (Value.slice a k cs).ownBlock) (hw:∀z,(Value.slice a2 (k+1) c2).ownBlock=some z->(Value.slice a k cs).ownBlock=some z\/x.heap.size<=z):
 SM W4 (y.setCell ⟨ob,6,none⟩ (.slice a2 (k+1) c2)) ob (k+1) l (T2++[⟨l[k].f,l[k].l,.slice b l[k].ids.length cc⟩]) (λi=>if i=k then gi else I i) a2 c2:=by
 have hs:y.heap.size=(y.setCell ⟨ob,6,none⟩ (.slice a2 (k+1) c2)).heap.size:=Aas
 have hkp:aC [ob] y (y.setCell ⟨ob,6,none⟩ (.slice a2 (k+1) c2)):=aC.set _;have hx1:=hx.size;have hx2:=hg.size;have hx3:=h.kp.size;have hoo:=h.own.lt;have hxy:aC (Value.slice a k cs).ownBlock.toList x y:=⟨hg.os,hg.tape,hg.output,hg.size,λz hz hne=>hg.block z hz (λe=>hne (by rw [<-e];simp))⟩;refine⟨by simp[h.len],?_,λi hi' hik=>?_,λi j hi' hj hij hjk h1 h2=>?_,?_⟩
 .rw [GR.flat_append,GR.flat_one];exact dG ho hkp (λz hz=>by have:z=ob:=Acj;omega)
 .by_cases e:i=k
  .subst e;refine⟨b,cc,by rw [List.getElem?_append_right (by rw [h.len];exact Nat.le_refl _),h.len];simp,?_,?_⟩
   .rw [if_pos rfl];refine(hi.keeps hxy (λz hz hm=>?_)).keeps hkp (λz hz hm=>?_)
    .have h1:(Value.slice a i cs).ownBlock=some z:=Aau
     have:=(hoo z h1).2;have:=(hlt z hz).1;omega
    .have:=(hlt z hz).1;have:z=ob:=Aau;omega
   .rw [if_pos rfl];refine λz hz=>⟨by have:=(hlt z hz).1;omega,by rw [<-hs];have:=(hlt z hz).2;omega,λe2=>?_⟩
    rcases hw z e2 with h1|h1
    .have:=(hoo z h1).2;have:=(hlt z hz).1;omega
    .have:=(hlt z hz).2;omega
  .obtain⟨b',c',e1,e2,e3⟩:=h.dn i hi' Aaa;refine⟨b',c',by rw [List.getElem?_append_left (by rw [h.len];omega)];exact e1,?_,?_⟩
   .rw [if_neg e];refine((e2.below hx).keeps hxy (λz hz hm=>?_)).keeps hkp (λz hz hm=>?_)
    .exact(e3 z hz).2.2 Aau
    .have:=(e3 z hz).1;have:z=ob:=Aau;omega
   .rw [if_neg e];refine λz hz=>⟨(e3 z hz).1,by rw [<-hs];have:=(e3 z hz).2.1;omega,λe4=>?_⟩
    rcases hw z e4 with h1|h1
    .exact(e3 z hz).2.2 h1
    .have:=(e3 z hz).2.1;omega
 .by_cases ej:j=k
  .subst ej;rw [if_neg Aaa,if_pos rfl];obtain⟨_,_,_,_,e3⟩:=h.dn i hi' Aaa;have q1:=(e3 (I i) (dK h1)).2.1;have q2:=(hlt gi (dK h2)).1;omega
  .exact ah0
 .refine⟨hg.os.trans (hx.os.trans h.kp.os),hg.tape.trans (hx.tape.trans h.kp.tape),hg.output.trans (hx.output.trans h.kp.output),by rw [<-hs];omega,λz hz hm=>?_⟩;have hne:z≠ob:=Aau
  rw [Below.heap_setCell _ _ _ _ hne,hg.block z Aaa (λe=>by have:=(hoo z e.symm).1;omega),hx.block z Aaa];exact h.kp.block z hz hm
theorem SM.done (h:SM W4 wr ob l.length l T2 I a cs):∃g,nR wr a g I l/\(∀x∈fp g l,W4.heap.size<=x)/\(∀x∈vR I l,W4.heap.size<=x/\x < wr.heap.size/\x∉fp g l)/\(vR I l).Nodup:=by
 open atj in exact agc
theorem uT (n:Nd) (A:bC) (w:World) (hz:eY n 1048576) (ha:bQ w A n):
 Calls prog 37 #[fT n A] w λe w'=>∃A' G' c',e= .returned (fT n A')/\NQ w' w.heap.size n A' G' c'/\aY w w'/\(∃g,A'.p=some ⟨g,0,none⟩)/\n.pu.length<=A'.cp/\(∃g,A'.r=some ⟨g,0,none⟩)/\n.reqs.length<=A'.cr:=by
 have HZ:=Hq hz;have HA:=Hq ha;have hlk:=hz.k;have hlp:=hz.p;have hlo:=hz.o;have hls:=hz.s;have hlr:=hz.r;clear hz ha;go_in
 go_upto_region 2 with fail;refine wp_at (λW0 hW=>?_);obtain⟨e1,e2,e3,e4⟩:=gD w (.cells (dD n A) 30) (.cells fU 30) (.cells (dD n A) 30);rw [<-hW] at e1 e2 e3 e4;have xH:=Hq e1;have Oh:=Hq e2;have Jw:=Hq e3;have EC:=Hq e4;have hsz0:=aA e3;clear hW e1 e2 e3 e4;obtain⟨c0,c1,c2,c3,c4,c5,c6,c7,c8⟩:=nine xH;have ajB:=aA xH;have aBC:=aA Jw;obtain⟨i0,hi,hz0,hz1,hz2⟩:=info_parts uG;obtain⟨ak,ck,aBW,hrun,hrow,hby,_⟩:=run_copy_row (P:=prog) (enc:=aS) aR Aaa W0 24 3 i0 (.int .i64 0) 8 underlying24 hi hz0 hz1 hz2 rfl A.k n.kids A.ck (GR.At.below HA.k EC) (by intro u hu;rw [Fh] at hu;obtain⟨z,_,rfl⟩:=List.mem_map.1 hu;rfl) Aah Aaa;clear hi hz0 hz1 hz2;have zo:=Hq hby;obtain⟨d0,d1,d2,d3,d4,d5,d6,d7,d8⟩:=nine (ay Jw hby);have f1:=aj (ay Jw hby) 2;have Tt:=aA (ay Jw hby);clear hby;go_upto_region 3 with(at_builtin;refine gu rfl _ _ 24 rfl _ _ rfl rfl _ _ (hrun _) ?_)
 refine wp_at (λW1 hW=>?_);have hO1:=ay Jw zo;have xI:Hid (W1.heap[w.heap.size]?=some (.cells (dD n A) 30 (0,0))):=by rw [hW];exact(Below.heap_setCell _ _ _ _ (show w.heap.size≠w.heap.size+2 by omega)).trans (ay xH zo)
 have Oi:Hid (W1.heap[w.heap.size+1]?=some (.cells fU 30 (0,0))):=by rw [hW];exact(Below.heap_setCell _ _ _ _ (show w.heap.size+1≠w.heap.size+2 by omega)).trans (ay Oh zo)
 have Jy:Hid (W1.heap[w.heap.size+2]?=some (.cells (gH n.id n.par ak n.kids.length ck n.next A.p n.pu.length A.cp A.o n.out.length A.co A.s n.seen.length A.cs n.old A.r n.reqs.length A.cr) 30 (0,0))):=Ade
 have ED:Hid (aY w W1):=by rw [hW];exact uh Aaa (EC.trans (zo.mono EC.size))
 have NJ:Hid (aC [w.heap.size+2] W0 W1):=by rw [hW];exact keepsN zo
 have UY:Hid (aC [w.heap.size+2] aBW W1):=Abi
 clear hW hO1 xH Oh Jw;clear c0 c1 c2 c3 c4 c5 c6 c7 c8 d0 d1 d2 d3 d4 d5 d6 d7 d8 f1 Tt hrun;have HKW:Hid (W1.ownsRow W0.heap.size 3 1 (.slice ak n.kids.length ck) n.kids.length (GR.flat aS n.kids)):=dG hrow UY (λx hx=>by have:x=w.heap.size+2:=Aag;omega);clear hrow;obtain⟨c0,c1,c2,c3,c4,c5,c6,c7,c8⟩:=nine xI;have ajC:=aA xI;have aBD:=aA Jy;go_wp2_with fail;refine(ab4 A.p A.cp n.pu W1 Aaa (GR.At.below HA.p ED)).mono ?_;rintro e aBX ⟨ap,cp,rfl,hrow,hby,hsm⟩;have Zw:=Hq hsm;clear hsm;have zq:=Hq hby;obtain⟨d0,d1,d2,d3,d4,d5,d6,d7,d8⟩:=nine (ay Jy hby);have f1:=aj (ay Jy hby) 4;have Tt:=aA (ay Jy hby);clear hby c0 c1 c2 c3 c4 c5 c6 c7 c8;go_upto_region 4 with fail;refine wp_at (λW2 hW=>?_);have hO1:=ay Jy zq;have xJ:Hid (W2.heap[w.heap.size]?=some (.cells (dD n A) 30 (0,0))):=by rw [hW];exact(Below.heap_setCell _ _ _ _ (show w.heap.size≠w.heap.size+2 by omega)).trans (ay xI zq)
 have Oj:Hid (W2.heap[w.heap.size+1]?=some (.cells fU 30 (0,0))):=by rw [hW];exact(Below.heap_setCell _ _ _ _ (show w.heap.size+1≠w.heap.size+2 by omega)).trans (ay Oi zq)
 have Jz:Hid (W2.heap[w.heap.size+2]?=some (.cells (gH n.id n.par ak n.kids.length ck n.next ap n.pu.length cp A.o n.out.length A.co A.s n.seen.length A.cs n.old A.r n.reqs.length A.cr) 30 (0,0))):=Ade
 have EF:Hid (aY w W2):=by rw [hW];exact uh Aaa (ED.trans (zq.mono ED.size))
 have Jr:Hid (aC [w.heap.size+2] W1 W2):=by rw [hW];exact keepsN zq
 have UZ:Hid (aC [w.heap.size+2] aBX W2):=Abi
 clear hW hO1 xI Oi Jy;clear d0 d1 d2 d3 d4 d5 d6 d7 d8 f1 Tt;have GQ:Hid (W2.ownsRow W1.heap.size 143 4 (.slice ap n.pu.length cp) n.pu.length (GR.flat fH n.pu)):=dG hrow UZ (λx hx=>by have:x=w.heap.size+2:=Aag;omega);clear hrow;obtain⟨c0,c1,c2,c3,c4,c5,c6,c7,c8⟩:=nine xJ;have ajD:=aA xJ;have aBE:=aA Jz;obtain⟨i0,hi,hz0,hz1,hz2⟩:=info_parts PN;obtain⟨ao,co,aBY,hrun,hrow,hby,_⟩:=run_copy_row (P:=prog) (enc:=aW) eu Aaa W2 26 95 i0 (.agg (fI 0 0 ByteArray.empty 0)) 40 underlying26 hi hz0 hz1 hz2 rfl A.o n.out A.co (GR.At.below HA.o EF) (CV _) Aah Aaa;clear hi hz0 hz1 hz2;have zu:=Hq hby;obtain⟨d0,d1,d2,d3,d4,d5,d6,d7,d8⟩:=nine (ay Jz hby);have f1:=aj (ay Jz hby) 5;have Tt:=aA (ay Jz hby);clear hby;go_upto_region 5 with(at_builtin;refine gu rfl _ _ 26 rfl _ _ rfl rfl _ _ (hrun _) ?_)
 refine wp_at (λW3 hW=>?_);have hO1:=ay Jz zu;have xK:Hid (W3.heap[w.heap.size]?=some (.cells (dD n A) 30 (0,0))):=by rw [hW];exact(Below.heap_setCell _ _ _ _ (show w.heap.size≠w.heap.size+2 by omega)).trans (ay xJ zu)
 have Ol:Hid (W3.heap[w.heap.size+1]?=some (.cells fU 30 (0,0))):=by rw [hW];exact(Below.heap_setCell _ _ _ _ (show w.heap.size+1≠w.heap.size+2 by omega)).trans (ay Oj zu)
 have JA:Hid (W3.heap[w.heap.size+2]?=some (.cells (gH n.id n.par ak n.kids.length ck n.next ap n.pu.length cp ao n.out.length co A.s n.seen.length A.cs n.old A.r n.reqs.length A.cr) 30 (0,0))):=Ade
 have Jo:Hid (aY w W3):=by rw [hW];exact uh Aaa (EF.trans (zu.mono EF.size))
 have Js:Hid (aC [w.heap.size+2] W2 W3):=by rw [hW];exact keepsN zu
 have ZJ:Hid (aC [w.heap.size+2] aBY W3):=Abi
 clear hW hO1 xJ Oj Jz;clear c0 c1 c2 c3 c4 c5 c6 c7 c8 d0 d1 d2 d3 d4 d5 d6 d7 d8 f1 Tt hrun;have HOW:Hid (W3.ownsRow W2.heap.size 95 4 (.slice ao n.out.length co) n.out.length (GR.flat aW n.out)):=dG hrow ZJ (λx hx=>by have:x=w.heap.size+2:=Aag;omega);clear hrow;obtain⟨c0,c1,c2,c3,c4,c5,c6,c7,c8⟩:=nine xK;have ajE:=aA xK;have aBF:=aA JA;obtain⟨i0,hi,hz0,hz1,hz2⟩:=info_parts wS;obtain⟨ar,cr,aBZ,hrun,hrow,hby,hsr⟩:=run_copy_row (P:=prog) (enc:=aN) bX Aaa W3 28 97 i0 (.agg (eG 0 ByteArray.empty 0 0)) 40 underlying28 hi hz0 hz1 hz2 rfl A.r n.reqs A.cr (GR.At.below HA.r Jo) (iP _) Aah Aaa;clear hi hz0 hz1 hz2;have HRS:=Hq hsr;clear hsr;have Ov:=Hq hby;obtain⟨d0,d1,d2,d3,d4,d5,d6,d7,d8⟩:=nine (ay JA hby);have f1:=aj (ay JA hby) 8;have Tt:=aA (ay JA hby);clear hby;go_upto_region 6 with(at_builtin;refine gu rfl _ _ 28 rfl _ _ rfl rfl _ _ (hrun _) ?_)
 refine wp_at (λW4 hW=>?_);have hO1:=ay JA Ov;have zk:Hid (W4.heap[w.heap.size]?=some (.cells (dD n A) 30 (0,0))):=by rw [hW];exact(Below.heap_setCell _ _ _ _ (show w.heap.size≠w.heap.size+2 by omega)).trans (ay xK Ov)
 have UR:Hid (W4.heap[w.heap.size+1]?=some (.cells fU 30 (0,0))):=by rw [hW];exact(Below.heap_setCell _ _ _ _ (show w.heap.size+1≠w.heap.size+2 by omega)).trans (ay Ol Ov)
 have UQ:Hid (W4.heap[w.heap.size+2]?=some (.cells (gH n.id n.par ak n.kids.length ck n.next ap n.pu.length cp ao n.out.length co A.s n.seen.length A.cs n.old ar n.reqs.length cr) 30 (0,0))):=Ade
 have EG:Hid (aY w W4):=by rw [hW];exact uh Aaa (Jo.trans (Ov.mono Jo.size))
 have Jt:Hid (aC [w.heap.size+2] W3 W4):=by rw [hW];exact keepsN Ov
 have akX:Hid (aC [w.heap.size+2] aBZ W4):=Abi
 clear hW hO1 xK Ol JA;clear c0 c1 c2 c3 c4 c5 c6 c7 c8 d0 d1 d2 d3 d4 d5 d6 d7 d8 f1 Tt hrun;have HQW:Hid (W4.ownsRow W3.heap.size 97 4 (.slice ar n.reqs.length cr) n.reqs.length (GR.flat aN n.reqs)):=dG hrow akX (λx hx=>by have:x=w.heap.size+2:=Aag;omega);clear hrow;obtain⟨c0,c1,c2,c3,c4,c5,c6,c7,c8⟩:=nine zk;have ajF:=aA zk;have abx:=aA UQ;obtain⟨d0,d1,d2,d3,d4,d5,d6,d7,d8⟩:=nine UQ;have f6:=aj UQ 6;go_upto_region 7 with fail;refine wp_at (λZ hZ=>?_);have aeh:(W4.setCell ⟨w.heap.size+2,6,none⟩ (.slice (some ⟨W4.heap.size,0,none⟩) 0 0)).heap.size=W4.heap.size:=Aas
 have hZo:Z.ownsRow W4.heap.size 90 3 (.slice (some ⟨W4.heap.size,0,none⟩) 0 0) 0 []:=by
  have hlit:=World.ownsRow_lit (base:=W4.heap.size) (e:=90) (size:=3) (W4.setCell ⟨w.heap.size+2,6,none⟩ (.slice (some ⟨W4.heap.size,0,none⟩) 0 0)) #[] 0 (by rw [aeh];exact Nat.le_refl _) Aah Aac;rw [aeh] at hlit;rw [hZ];exact hlit
 have hZk:aC [w.heap.size+2] W4 Z:=by rw [hZ];exact(aC.set _).trans (aC.of_below (au _ _))
 have hZb:Z.heap[w.heap.size+2]?=some (.cells (gH n.id n.par ak n.kids.length ck n.next ap n.pu.length cp ao n.out.length co (some ⟨W4.heap.size,0,none⟩) 0 0 n.old ar n.reqs.length cr) 30 (0,0)):=by
  rw [hZ];exact(Below.heap_alloc _ _ _ (by rw [aeh];exact abx)).trans (pY UQ)
 have HZF:=Hq (And.intro hZo (And.intro hZk hZb));clear hZ aeh hZo hZk hZb c0 c1 c2 c3 c4 c5 c6 c7 c8 d0 d1 d2 d3 d4 d5 d6 d7 d8 f6;go_wp2_with fail;go_loopw [4] (λi wr=>∃(k:Nat) (T2:List R3) (I:Nat->Nat) (a:Option Addr) (cs:Nat),k<=n.seen.length/\i= .int .i64 k/\SM W4 wr (w.heap.size+2) k n.seen T2 I a cs/\wr.heap[w.heap.size+2]?=some (.cells (gH n.id n.par ak n.kids.length ck n.next ap n.pu.length cp ao n.out.length co a k cs n.old ar n.reqs.length cr) 30 (0,0))) (λi _=>n.seen.length - (intOf i).toNat)
 case atStart=>
  exact⟨0,[],λ_=>0,some ⟨W4.heap.size,0,none⟩,0,Nat.zero_le _,rfl,⟨rfl,HZF.1,λi hi h=>Aaa,λi j _ _ _ h=>Aaa,HZF.2.1⟩,HZF.2.2⟩
 case' round=>
  obtain⟨k,T2,I,a,cs,hk,rfl,hsm,ayg⟩:=hrel
  have YX:=Hq hsm
  have HOB:=Hq ayg
  have Rs:=Hq (hsm.kp.obj zk Aac)
  have R7:=Hq (hsm.kp.obj UR Aac)
  have Zf:=Hq (EG.trans (hsm.kp.below (λx hx=>by have:x=w.heap.size+2:=Aag;omega) EG.size))
  have aCf:=hsm.kp.size
  clear hsm ayg
  obtain⟨c0,c1,c2,c3,c4,c5,c6,c7,c8⟩:=nine Rs
  have hnr:=aA Rs
  by_cases hlt:k < n.seen.length
  case' pos=>
   have Pg:(k:Int) < (n.seen.length:Int):=Aaa
   obtain⟨g,off,b,cc,e0,hg,q0,q1,q2,hIb⟩:=mW.below HA.s Zf k hlt
   have UU:=Hq (λx y a2 c2 gi b cc hx hi hlt2 ho hg hw=>SM.next (x:=x) (y:=y) (a2:=a2) (c2:=c2) (gi:=gi) (b:=b) (cc:=cc) YX hlt abx hx hi hlt2 ho hg hw)
   have hil:=HZ.sk _ (List.getElem_mem hlt)
   have HIB:=Hq hIb
   rw [e0] at c6
   clear hIb e0
   generalize n.seen[k]=s0 at *
   obtain⟨sf,sl,ids⟩:=s0
   dsimp only at q0 q1 q2 UU HIB hil
   go_upto_region 11 with fail
   refine wp_at (λX1 hX=>?_)
   have e1:X1.heap[wr.heap.size]?=some (.cells #[.int .i64 sf,.int .i64 sl,.slice b ids.length cc] 90 (0,0)):=by rw [hX];exact heap_alloc_new _ _
   have e2:aY wr X1:=by rw [hX];exact au _ _
   have E1:=Hq e1
   have E2:=Hq e2
   have aei:=aA e1
   obtain⟨s0,s1,s2⟩:=three e1
   clear hX e1 e2 q0 q1 q2 c0 c1 c2 c3 c4 c5 c6 c7 c8
   obtain⟨i0,hi,hz0,hz1,hz2⟩:=info_parts uG
   obtain⟨b2,GX,y2,hrun,hrow,hby,hq0⟩:=IJ (P:=prog) (enc:=aS) aR Aaa X1 24 3 i0 (.int .i64 0) 8 underlying24 hi hz0 hz1 hz2 rfl b ids cc (GR.At.below HIB E2) (by intro u hu;rw [Fh] at hu;obtain⟨z,_,rfl⟩:=List.mem_map.1 hu;rfl) Aah Aaa
   have hE3:=ay E1 hby
   have f2:=aj hE3 2
   have hl3:=aA hE3
   obtain⟨t0,t1,t2⟩:=three hE3
   have HE3:=Hq hE3
   have yX:=Hq hby
   clear hi hz0 hz1 hz2 hby hE3
   go_upto_region 12 with(at_builtin;refine gu rfl _ _ 24 rfl _ _ rfl rfl _ _ (hrun _) ?_)
   refine wp_at (λX2 hX=>?_)
   have e3:X2.heap[wr.heap.size]?=some (.cells #[.int .i64 sf,.int .i64 sl,.slice b2 ids.length GX] 90 (0,0)):=by rw [hX];exact aT HE3 2 (.slice b2 ids.length GX)
   have e4:aY wr X2:=by
    rw [hX];exact(E2.trans (yX.mono E2.size)).setCell (p:=⟨wr.heap.size,2,none⟩) (Nat.le_refl _) _
   have hv2:aC [wr.heap.size] y2 X2:=by rw [hX];exact aC.set _
   obtain⟨_,_,g2,e5,hW2,hg2,_⟩:=GR.W.of_own (enc:=aS) aR hrow
   cases e5
   have hW3:=(WO.of_own hW2 hrow hq0).keeps hv2 (λz hz=>by have:=(hg2 z hz).1;simp;omega)
   have hg3:∀z∈fp g2 ids,wr.heap.size<=z/\z < X2.heap.size:=λz hz=>⟨by have:=(hg2 z hz).1;omega,Nat.lt_of_lt_of_le (hg2 z hz).2 hv2.size⟩
   clear hX hq0 hrow hW2 hg2 hv2 s0 s1 s2 t0 t1 t2 f2 hl3 hrun
   have Ei:=Hq (ay HOB e4)
   obtain⟨c0,c1,c2,c3,c4,c5,c6,c7,c8⟩:=nine Ei
   have hl4:=aA Ei
   obtain⟨s0,s1,s2⟩:=three e3
   have hl5:=aA e3
   obtain⟨i0,hi,hz0,hz1,hz2⟩:=info_parts FJ
   have ayf:=YX.len
   have hown3:=GR.own_below YX.own (e4.trans ((au X2 (.cells #[.int .i64 sf,.int .i64 sl,.slice b2 ids.length GX] 90)).mono e4.size))
   have hblk:GR.Blk eP 90 (X2.alloc (.cells #[.int .i64 sf,.int .i64 sl,.slice b2 ids.length GX] 90)) X2.heap.size [⟨sf,sl,.slice b2 ids.length GX⟩]:=heap_alloc_new X2 _
   obtain⟨v6,y6,ayl,hown6,rA,hw6⟩:=fK (P:=prog) (enc:=eP) eF Aaa (X2.alloc (.cells #[.int .i64 sf,.int .i64 sl,.slice b2 ids.length GX] 90)) W4.heap.size 27 27 90 i0 (.agg #[.int .i64 0,.int .i64 0,.slice none 0 0]) 40 underlying27 hi hz0 hz1 hz2 rfl (.slice a k cs) k (GR.flat eP T2) hown3 (some ⟨X2.heap.size,0,none⟩) [⟨sf,sl,.slice b2 ids.length GX⟩] 1 (hblk.at eF) (by intro u hu;rw [GR.flat_one] at hu;simp only[eP,List.mem_cons,List.not_mem_nil,or_false] at hu;rcases hu with rfl|rfl|rfl<;>rfl) (by unfold maxLen;simp;omega) Aaf (by have:=e4.size;simp;omega)
   rw [GR.flat_one] at hown6
   have hform:∃a6 c6,v6= .slice a6 (k+1) c6:=by
    have h6:=hown6;rw [<-GR.flat_one (enc:=eP),<-GR.flat_append] at h6;have hl6:(T2++[(⟨sf,sl,.slice b2 ids.length GX⟩:R3)]).length=k+1:=by simp[ayf]
    have h7:y6.ownsRow W4.heap.size 90 3 v6 (T2++[(⟨sf,sl,.slice b2 ids.length GX⟩:R3)]).length (GR.flat eP (T2++[⟨sf,sl,.slice b2 ids.length GX⟩])):=by rw [hl6];exact h6
    obtain⟨a6,c6',e6,_⟩:=GR.own_at (enc:=eP) (sz:=3) eF h7;rw [hl6] at e6;exact⟨a6,c6',e6⟩
   obtain⟨a6,cc6,rfl⟩:=hform
   have abw:y6.heap[w.heap.size+2]?=some (.cells (gH n.id n.par ak n.kids.length ck n.next ap n.pu.length cp ao n.out.length co a k cs n.old ar n.reqs.length cr) 30 (0,0)):=by
    rw [rA.block _ Aaf (λe=>by have:=((ah YX).own.lt _ e.symm).1;omega)];exact ay Ei (au X2 _)
   have ayR:=Hq (UU (X2.alloc (.cells #[.int .i64 sf,.int .i64 sl,.slice b2 ids.length GX] 90)) y6 a6 cc6 g2 b2 GX (e4.trans ((au X2 _).mono e4.size)) (hW3.below (au X2 _)) (λz hz=>⟨(hg3 z hz).1,by have:=(hg3 z hz).2;simp;omega⟩) hown6 rA hw6)
   have ayU:=Hq abw
   obtain⟨d0,d1,d2,d3,d4,d5,d6,d7,d8⟩:=nine abw
   have f6:=aj abw 6
   have hl6:=aA abw
   clear hi hz0 hz1 hz2 hown3 hblk hown6 rA hw6 abw UU hW3 hg3 e3 e4
   go_wp2_with (at_builtin;refine gu rfl _ _ 27 rfl _ _ rfl rfl _ _ ayl ?_)
   go_roundw
   case rel=>
    exact⟨k+1,_,_,a6,cc6,Aaa,Aai,ayR,pY ayU⟩
   case measure=>simp[intOf];omega
  have hke:k=n.seen.length:=Aaa
  subst hke
  have hnlt:decide ((n.seen.length:Int) < (n.seen.length:Int))=false:=Aac
  go_upto_region 13 with fail
  refine wp_at (λW5 hWW=>?_)
  subst hWW
  obtain⟨gs,hsn⟩:=YX.done
  have UU:=Hq hsn
  have Ju:=Hq YX.kp
  clear hsn YX c0 c1 c2 c3 c4 c5 c6 c7 c8
 obtain⟨c0,c1,c2,c3,c4,c5,c6,c7,c8⟩:=nine HOB;obtain⟨d0,d1,d2,d3,d4,d5,d6,d7,d8⟩:=nine R7;have f0:=aj R7 0;have f1:=aj R7 1;have f2:=aj R7 2;have f3:=aj R7 3;have f4:=aj R7 4;have f5:=aj R7 5;have f6:=aj R7 6;have f7:=aj R7 7;have f8:=aj R7 8;have aBy:=aA HOB;have aBJ:=aA R7;go_wp2_with fail;refine aO (λW' hW'=>?_)
 have e4:W'.heap[w.heap.size+1]?=some (.cells (gH n.id n.par ak n.kids.length ck n.next ap n.pu.length cp ao n.out.length co a n.seen.length cs n.old ar n.reqs.length cr) 30 (0,0)):=by
  rw [hW'];exact GR.setW_blk (gH n.id n.par ak n.kids.length ck n.next ap n.pu.length cp ao n.out.length co a n.seen.length cs n.old ar n.reqs.length cr).toList (o:=0) (xs:=fU.toList) R7
 have hso:∀x,x≠w.heap.size+1->W'.heap[x]?=W5.heap[x]?:=λx hx=>by
  rw [hW']
  exact GR.setW_other hx (gH n.id n.par ak n.kids.length ck n.next ap n.pu.length cp ao n.out.length co a n.seen.length cs n.old ar n.reqs.length cr).toList (o:=0)
 have hsz:W5.heap.size=W'.heap.size:=by rw [hW'];simp[World.setCell]
 have HBE:Hid (aY w W'):=by
  rw [hW'];exact GR.setW_below Aaa (gH n.id n.par ak n.kids.length ck n.next ap n.pu.length cp ao n.out.length co a n.seen.length cs n.old ar n.reqs.length cr).toList (o:=0) Zf
 clear hW' c0 c1 c2 c3 c4 c5 c6 c7 c8 d0 d1 d2 d3 d4 d5 d6 d7 d8 f0 f1 f2 f3 f4 f5 f6 f7 f8;obtain⟨c0,c1,c2,c3,c4,c5,c6,c7,c8⟩:=nine e4;have k0:=NJ.size;have k1:=Jr.size;have k2:=Js.size;have k3:=Jt.size;have k4:=Ju.size;have b4:∀x,w.heap.size+2 < x->x < W4.heap.size->W'.heap[x]?=W4.heap[x]?:=λx h1 h2=>(hso x Aaa).trans (Ju.block x h2 Aaf)
 have b3:∀x,w.heap.size+2 < x->x < W3.heap.size->W'.heap[x]?=W3.heap[x]?:=λx h1 h2=>(b4 x h1 Aaa).trans (Jt.block x h2 Aaf)
 have b2:∀x,w.heap.size+2 < x->x < W2.heap.size->W'.heap[x]?=W2.heap[x]?:=λx h1 h2=>(b3 x h1 Aaa).trans (Js.block x h2 Aaf)
 have b1:∀x,w.heap.size+2 < x->x < W1.heap.size->W'.heap[x]?=W1.heap[x]?:=λx h1 h2=>(b2 x h1 Aaa).trans (Jr.block x h2 Aaf)
 have oK:=HKW.lt;have oP:=GQ.lt;have oO:=HOW.lt;have oQ:=HQW.lt;obtain⟨sw,sg,si,snd⟩:=ah UU;have hkW:=kH HKW (w':=W') (λx hx=>b1 x (by have:=oK x hx;omega) (oK x hx).2);have hpW:=kH GQ (w':=W') (λx hx=>b2 x (by have:=oP x hx;omega) (oP x hx).2);obtain⟨_,_,gk,ek,hWk,_,hok⟩:=GR.W.of_own (enc:=aS) aR hkW;cases ek
 obtain⟨_,_,gp,ep,hWp,_,hop⟩:=GR.W.of_own (enc:=fH) aX hpW;cases ep
 have hSQ:=nR.blocks (w':=W') sw Aaa (λx hx=>hso x (by have:=sg x hx;omega)) (λx hx=>hso x (by have:=si x hx;omega))
 have kS:Hid (NQ W' w.heap.size n ⟨ak,ap,ao,a,ar,ck,cp,co,cs,cr⟩ ⟨gk,gp,0,gs,0,I⟩ (Dj W0.heap.size W1.heap.size W2.heap.size W3.heap.size W4.heap.size gs)):=by
  refine⟨⟨hWk,hWp,jO (kH HOW (λx hx=>b3 x (by have:=oO x hx;omega) (oO x hx).2)) Aaa,hSQ.w,jO (kH HQW (λx hx=>b4 x (by have:=oQ x hx;omega) (oQ x hx).2)) Aaa,λx hx=>?_,λx hx=>?_,λx hx=>?_,λx hx=>?_,λx hx=>?_,λx hx=>?_,λx hx=>?_,snd⟩,hSQ⟩
  .unfold Dj;rw [if_pos Aaa]
  .have:=oK x (hok x hx);unfold Dj;rw [if_neg Aaa,if_pos Aaa]
  .have:=oP x (hop x hx);unfold Dj;rw [if_neg Aaa,if_neg Aaa,if_pos Aaa]
  .have:=oO x hx;unfold Dj;rw [if_neg Aaa,if_neg Aaa,if_neg Aaa,if_pos Aaa]
  .have:=sg x hx;have e:=(gV hx).1;unfold Dj;rw [if_neg Aaa,if_neg Aaa,if_neg Aaa,if_neg Aaa,if_neg Aaa,if_pos e]
  .have h1:=si x hx;have e:x≠gs:=λe=>h1.2.2 (by rw [e];exact dK (by obtain⟨i,hi,_⟩:=uO hx;omega));unfold Dj;rw [if_neg Aaa,if_neg Aaa,if_neg Aaa,if_neg Aaa,if_neg Aaa,if_neg e]
  .have:=oQ x hx;unfold Dj;rw [if_neg Aaa,if_neg Aaa,if_neg Aaa,if_neg Aaa,if_pos Aaa]
 clear e4 hSQ hso b4 b3 b2 b1 oK oP oO oQ sw sg si snd hkW hpW hWk hWp hok hop;exact bodyPost_ret (v:= .agg (gH n.id n.par ak n.kids.length ck n.next ap n.pu.length cp ao n.out.length co a n.seen.length cs n.old ar n.reqs.length cr)) (by simp[results,results37,go_sem,c0,c1,c2,c3,c4,c5,c6,c7,c8]) rfl ⟨⟨ak,ap,ao,a,ar,ck,cp,co,cs,cr⟩,_,_,rfl,kS,HBE,Zw.1,Zw.2,HRS⟩
end Go.Proofs.YtacgbldlonoaaaaGreatDoor
