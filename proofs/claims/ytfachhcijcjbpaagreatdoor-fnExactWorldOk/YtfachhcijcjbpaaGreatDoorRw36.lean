/- Parts. -/
import Derived.Test.YtfachhcijcjbpaaGreatDoorRw35
namespace Go.Proofs.YtfachhcijcjbpaaGreatDoor
open Go.Proofs.Tryz
set_option maxHeartbeats 8000000
set_option maxRecDepth 100000
open Go.RowKit
open Mth
variable (w0 w:World) (wb:Nat) (n:Nd) (A:bg) (G:aR) (c:Nat->Nat) (v:Value) (L:List Mg) {mb sb k j g:Nat} {low:Int} {l:List Int} {w':World} {mm:Mg}
theorem WK.reqPut {w0 w w6:World} {wb:Nat} {n:Nd} {A:bg} {G:aR} {c:Nat->Nat} {v:Value} {L:List Mg} {a6:Option Addr} {c6:Nat} {l:List Rq} (h:WK w0 w wb n A G c v L) (hown:w6.ownsRow w0.heap.size 133 4 (.slice a6 l.length c6) l.length (GR.flat aM l)) (hg:w.grownBy w6 (Value.slice A.r n.reqs.length A.cr).ownBlock) (hv:∀x,(Value.slice a6 l.length c6).ownBlock=some x->(Value.slice A.r n.reqs.length A.cr).ownBlock=some x\/w.heap.size<=x):
 w6.heap[wb]?=some (.cells (XB n A v) 254 (0,0))/\WK w0 (w6.setCell ⟨wb,8,none⟩ (.slice a6 l.length c6)) wb (eD n l) ⟨A.k,A.p,A.o,A.s,a6,A.ck,A.cp,A.co,A.cs,c6⟩ G (newC w.heap.size 6 c) v L:=by
 have h1:=h.recol (c':=newC w.heap.size 6 c) (λx hx=>eY hx);have hk1:KC (newC w.heap.size 6 c) 6 w w6:=KC.grown hg h1.no.cr;have hblk:=hk1.obj h1.blk (by rw [h1.cw];omega);have hkeep:=hk1.below h1.keep h1.no.lo Aaa h1.keep.size;have hk2:KC (newC w.heap.size 6 c) 8 w6 (w6.setCell ⟨wb,8,none⟩ (.slice a6 l.length c6)):=KC.set h1.cw
 have hcr:∀x,(Value.slice a6 l.length c6).ownBlock=some x->newC w.heap.size 6 c x=6:=λx hx=>by
  rcases hv x hx with hx'|hx'
  .exact h1.no.cr x hx'
  .exact aY hx'
 have hno:=h1.no;refine⟨hblk,hk2.below hkeep hno.lo Aaa hkeep.size,?_,⟨?_,?_,?_,?_,?_,hno.lo,hno.ck,hno.cp,hno.co,hno.c4,hno.ci,hcr,hno.ni⟩,?_,h1.cm,h1.cw⟩
 .exact aT hblk 8 (.slice a6 l.length c6)
 .exact hk2.w (hk1.w hno.k hno.ck Aaa) hno.ck Aaa
 .exact hk2.w (hk1.w hno.p hno.cp Aaa) hno.cp Aaa
 .exact hk2.own (hk1.own hno.o hno.co Aaa) hno.co Aaa
 .exact aiT
 .exact hk2.own hown hcr Aaa
 .exact hk2.own (hk1.own h1.m h1.cm Aaa) h1.cm Aaa
theorem WK.oldPut {w0 w:World} {wb:Nat} {n:Nd} {A:bg} {G:aR} {c:Nat->Nat} {v:Value} {L:List Mg} (h:WK w0 w wb n A G c v L) (y:Int):WK w0 (w.setCell ⟨wb,7,none⟩ (.int .i64 y)) wb (oz n y) A G c v L:=by
 have hk2:KC c 8 w (w.setCell ⟨wb,7,none⟩ (.int .i64 y)):=KC.set h.cw;have hno:=h.no.kc hk2 Aaa;exact⟨hk2.below h.keep h.no.lo Aaa h.keep.size,aT h.blk 7 (.int .i64 y),⟨hno.k,hno.p,hno.o,hno.s,hno.r,hno.lo,hno.ck,hno.cp,hno.co,hno.c4,hno.ci,hno.cr,hno.ni⟩,hk2.own h.m h.cm Aaa,h.cm,h.cw⟩
def Db (n:Nd) (q:Rq) (i:Nat):Nd:=if 30 < (qd n.reqs i q).length then eD (oz n ((qd n.reqs i q).headD default).no) ((qd n.reqs i q).drop 1) else eD n (qd n.reqs i q)
theorem FV (n:Nd) (q:Rq):Db n q (dV n.reqs q.no)=qY n q:=by
 unfold Db qY;rw [show qd n.reqs (dV n.reqs q.no) q=vX n.reqs q from rfl,List.drop_one]
theorem ad1 (q:Rq) (i:Nat) (hi:i<=n.reqs.length) (hr:n.reqs.length<=30) (h:WK w0 w wb n A G c v L):
 Calls prog 223 #[.pointer (some ⟨wb,0,none⟩),.agg (gJ q.no q.k q.n q.s),.int .i64 i] w λe w'=>e= .returned (.tuple #[])/\∃A' G' c',WK w0 w' wb (Db n q i) A' G' c' v L:=by
 have HW:=Hq h;have HW1:=Hq (h.step (au w (.cells (gJ q.no q.k q.n q.s) 133)));have kU:=Hq (aEu w (.cells (gJ q.no q.k q.n q.s) 133));clear h;have hlen:=Qs n.reqs i q hi;obtain⟨c0,c1,c2,c3,c4,c5,c6,c7,c8,c9⟩:=jB HW1.blk;obtain⟨p0,p1,p2,p3⟩:=iq kU;have hwl:=ay HW.blk;have hne:wb≠w.heap.size:=Aaa
 go_in
 go_upto_region 1 with fail;have y8:=aEv c8;have z0:=aEv p0;have z1:=aEv p1;have z2:=aEv p2;have z3:=aEv p3;clear c0 c1 c2 c3 c4 c5 c6 c7 c8 c9 p0 p1 p2 p3;refine l7 Aab ?_;show wH _ _ _ _ 14 (Array.replicate 14 false) _ _
 open aqG in exact akd
theorem Xr {w0 w x:World} {wb:Nat} {n:Nd} {A:bg} {G:aR} {c:Nat->Nat} {v:Value} {L:List Mg} (h:WK w0 w wb n A G c v L) {r:List Pu×Bool} {a:Option Addr} {cp g:Nat} (hb:aG w x) (hg:w.heap.size<=g) (hp:xC x a g r.1):
 Calls prog 219 #[.pointer (some ⟨wb,0,none⟩),.slice a r.1.length cp,.bool r.2] x λe w'=>e= .returned (.bool r.2)/\∃A' G' c',WK w0 w' wb (if r.2=true then setPu n r.1 else n) A' G' c' v L/\(∀k o,k≠wb->x.heap[k]?=some o->w'.heap[k]?=some o)/\∀k,k < w.heap.size->c' k=c k:=by
 obtain⟨l,b⟩:=r;cases b with
 |false=>
  refine(Cw wb a l.length cp x).mono ?_;rintro e w' ⟨rfl,rfl⟩;exact⟨rfl,A,G,c,h.step hb,λ_ _ _ h=>h,λ_ _=>rfl⟩
 |true=>
  refine(zk wb n A v a l.length cp x (h.step hb).blk).mono ?_;rintro e w' ⟨rfl,rfl⟩;exact⟨rfl,_,_,_,h.setPu hb hp (λy hy=>by rw [(dz hy).1];exact hg),λk o hk ho=>by rw [aEU _ _ _ _ hk];exact ho,λk hk=>eY hk⟩
theorem azq {w:World} {a b d e u:Value} {t:TypeId} (h:w.heap[g]?=some (.cells #[a,b,d,e] t (0,0))):(w.setCell ⟨g,3,none⟩ u).heap[g]?=some (.cells #[a,b,d,u] t (0,0)):=aT h 3 u
theorem Sm (o:gD) (hc:o.no<=n.old) (h:WK w0 w wb n A G c v L):Calls prog 205 #[.pointer (some ⟨wb,0,none⟩),jF o] w λe w'=>e= .returned (.int .i64 (fE n o.no o.k o.n).2)/\∃A' G' c',WK w0 w' wb (fE n o.no o.k o.n).1 A' G' c' v L:=by
 have hR:fE n o.no o.k o.n=(n,2):=aER hc;rw [hR];have hd:decide (o.no<=n.old)=true:=aEy hc;clear hR;open aAy in exact Yk9
theorem Z5 (o:gD) (E:Nat->Addr) (hz:eH n 1048576) (hok:gQ n=true) (hk:o.k.size<=1048576) (h0:0<=o.no) (h1:o.no<=1000000000) (hc:¬o.no<=n.old) (hf:nW n.reqs o.no=false) (h:WK w0 w wb n A G c v L) (he:gX w0 E):Calls prog 205 #[.pointer (some ⟨wb,0,none⟩),jF o] w λe w'=>e= .returned (.int .i64 (fE n o.no o.k o.n).2)/\∃A' G' c',WK w0 w' wb (fE n o.no o.k o.n).1 A' G' c' v L:=by
 have hR:fE n o.no o.k o.n=(qY (setPu n (cK n.pu o.k 0 (-1) 1 o.n).1) ⟨o.no,o.k,o.n,if (cK n.pu o.k 0 (-1) 1 o.n).2=true then 0 else 1⟩,if (cK n.pu o.k 0 (-1) 1 o.n).2=true then 0 else 1):=by
  unfold fE;rw [aEG hc,aEG Abf]
 have HAD:=Hq hR;generalize fE n o.no o.k o.n=RES at *;have hd:decide (o.no<=n.old)=false:=aEw hc;have xB:=Hq (λw1 c1 (hw:WK w0 w1 wb n A G c1 v L)=>Oi w0 w1 wb n A G c1 v L o.no hok h0 h1 hw);rw [hf] at xB;have hlen:=(iL hok).2.1;have hil:=wU n.reqs o.no;have HRL:=Hq (show(cK n.pu o.k 0 (-1) 1 o.n).2=false->(cK n.pu o.k 0 (-1) 1 o.n).1=n.pu from J2);have VT:=Hq (fun(l:List Pu) s=>FV (setPu n l) ⟨o.no,o.k,o.n,s⟩);have HKN:=Hq (λs=>FV n ⟨o.no,o.k,o.n,s⟩);dsimp only[setPu] at VT;dsimp only at HKN;have SL:=Hq (λw1 c1 (hw:WK w0 w1 wb n A G c1 v L)=>YF A.p A.cp n.pu o.k o.n E w1 hz.p hz.pk hk hw.no.p.at (he.below hw.keep));unfold jK at SL;generalize cK n.pu o.k 0 (-1) 1 o.n=r at *;generalize dV n.reqs o.no=i at *;clear hR h0 h1 hok hf he hz;open aAx in exact Yk9
theorem aBB (no:Int) (k k':ByteArray) (n n' s s':Int) (W:World):(binOp .eql 133 (.agg (gJ no k n s)) (.agg (gJ no k' n' s'))).run prog W= .ok (.bool ((k.toList == k'.toList)&&decide (n=n')&&decide (s=s'))) W:=by
 by_cases h1:k.toList == k'.toList<;>by_cases h2:n=n'<;>by_cases h3:s=s'<;>simp[go_sem,h1,h2,h3]
theorem Sl (o:gD) (hok:gQ n=true) (hk:o.k.size<=1048576) (h0:0<=o.no) (h1:o.no<=1000000000) (hc:¬o.no<=n.old) (hf:nW n.reqs o.no=true) (h:WK w0 w wb n A G c v L):Calls prog 205 #[.pointer (some ⟨wb,0,none⟩),jF o] w λe w'=>e= .returned (.int .i64 (fE n o.no o.k o.n).2)/\∃A' G' c',WK w0 w' wb (fE n o.no o.k o.n).1 A' G' c' v L:=by
 open ar6 in exact aaI
theorem agb (w0 w:World) (wb:Nat) (n:Nd) (A:bg) (G:aR) (c:Nat->Nat) (v:Value) (L:List Mg) (o:gD) (E:Nat->Addr) (hz:eH n 1048576) (hok:gQ n=true) (hk:o.k.size<=1048576) (h0:0<=o.no) (h1:o.no<=1000000000) (h:WK w0 w wb n A G c v L) (he:gX w0 E):Calls prog 205 #[.pointer (some ⟨wb,0,none⟩),jF o] w λe w'=>e= .returned (.int .i64 (fE n o.no o.k o.n).2)/\∃A' G' c',WK w0 w' wb (fE n o.no o.k o.n).1 A' G' c' v L:=by
 by_cases hc:o.no<=n.old
 .exact Sm w0 w wb n A G c v L o hc h
 cases hf:nW n.reqs o.no with
 |false=>exact Z5 w0 w wb n A G c v L o E hz hok hk h0 h1 hc hf h he
 |true=>exact Sl w0 w wb n A G c v L o hok hk h0 h1 hc hf h
open Go.RowKit Go.Maps
structure qJ (w0 w:World) (wb sb mb k:Nat) (n:Nd) (A:bg) (G:aR) (c:Nat->Nat) (v:Value) (L:List Mg) (low:Int) (l:List Int):Prop where
 wk:WK w0 w wb n A G c v L
 bk:kR w sb mb low
 si:fq w mb k l
 cs:c sb=9
 cm:c mb=9
theorem qJ.step {w0 w:World} {wb:Nat} {n:Nd} {A:bg} {G:aR} {c:Nat->Nat} {v:Value} {L:List Mg} (h:qJ w0 w wb sb mb k n A G c v L low l) (hb:aG w w'):qJ w0 w' wb sb mb k n A G c v L low l:=
 ⟨h.wk.step hb,aj h.bk hb,h.si.kept (hb.block mb h.si.lt),h.cs,h.cm⟩
theorem qJ.ne {w0 w:World} {wb:Nat} {n:Nd} {A:bg} {G:aR} {c:Nat->Nat} {v:Value} {L:List Mg} (h:qJ w0 w wb sb mb k n A G c v L low l):sb≠wb/\mb≠wb:=by
 have h8:=h.wk.cw;refine⟨λe=>?_,λe=>?_⟩
 .have:=h.cs;rw [e,h8] at this;cases this
 .have:=h.cm;rw [e,h8] at this;cases this
theorem qJ.settled {w0 w x:World} {wb:Nat} {n n':Nd} {A A':bg} {G G':aR} {c c':Nat->Nat} {v:Value} {L:List Mg} (h:qJ w0 w wb sb mb k n A G c v L low l) (hb:aG w x) (hw:WK w0 w' wb n' A' G' c' v L) (hk:∀k o,k≠wb->x.heap[k]?=some o->w'.heap[k]?=some o) (hc:∀k,k < w.heap.size->c' k=c k):qJ w0 w' wb sb mb k n' A' G' c' v L low l:=by
 have h1:=h.step hb;refine⟨hw,hk sb _ h.ne.1 h1.bk,?_,(hc sb (ay h.bk)).trans h.cs,(hc mb h.si.lt).trans h.cm⟩;obtain⟨D,⟨es,clock,hbk,rest⟩,ha⟩:=h1.si;exact⟨D,⟨es,clock,hk mb _ h.ne.2 hbk,rest⟩,ha⟩
theorem qJ.put {w0 w:World} {wb:Nat} {n:Nd} {A:bg} {G:aR} {c:Nat->Nat} {v:Value} {L:List Mg} {x:Int} (h:qJ w0 w wb sb mb k n A G c v L low l) (hs:fq w' mb (k+1) (x::l)) (hk:Keeps mb w w'):qJ w0 w' wb sb mb (k+1) n A G c v L low (x::l):=by
 have hne:=h.si.ne h.bk;have hkc:KC c 9 w w':=⟨hk.os,hk.tape,hk.output,hk.size,λy hy hc=>hk.block y hy (λe=>hc (by rw [e];exact h.cm))⟩;exact⟨h.wk.kc hkc Aaa,by unfold kR;rw [hk.block sb (ay h.bk) hne];exact h.bk,hs,h.cs,h.cm⟩
theorem aCz {w:World} (h:fq w mb k l) (hl:l.Nodup) (d:Nat) (os:Array Obj) (ty:TypeId):(Builtin.len_ #[341] ty #[.map (some mb)]).run prog (Sort.grow (redrawn w d) os)= .ok (.int .i64 l.length) (Sort.grow (redrawn w d) os):=
 (h.kept ((aEV w d os).block mb h.lt)).len hl ty
theorem Sq (w0 w:World) (wb sb mb k:Nat) (n:Nd) (A:bg) (G:aR) (c:Nat->Nat) (v:Value) (L:List Mg) (m:Mg) (low:Int) (l:List Int) (hnd:l.Nodup) (hf:l.length=40) (h:qJ w0 w wb sb mb k n A G c v L low l):Calls prog 256 #[.pointer (some ⟨wb,0,none⟩),nT m,.pointer (some ⟨sb,0,none⟩)] w λe w'=>e= .returned (.bool false)/\aG w w':=by
 have hq:((l.length:Int) == 40)=true:=Aae
 have HW:=Hq h;obtain⟨mK,mF,mT,mI,mL,mk,mN⟩:=m;skip
 open aou in exact awg
theorem Sr (w0 w:World) (wb sb mb k:Nat) (n:Nd) (A:bg) (G:aR) (c:Nat->Nat) (v:Value) (L:List Mg) (m:Mg) (low:Int) (l:List Int) (E:Nat->Addr) (hz:eH n 1048576) (hk:m.k.size<=1048576) (hi0:0<=m.I) (hi1:m.I<=1000000000) (hkk:k < 1000000) (hnd:l.Nodup) (hf:l.length < 40) (h:qJ w0 w wb sb mb k n A G c v L low l) (he:gX w0 E):Calls prog 256 #[.pointer (some ⟨wb,0,none⟩),nT m,.pointer (some ⟨sb,0,none⟩)] w λe w'=>e= .returned (.bool (cK n.pu m.k 0 1 0 m.N).2)/\(∃A' G' c',qJ w0 w' wb sb mb (k+1) (if (cK n.pu m.k 0 1 0 m.N).2=true then setPu n (cK n.pu m.k 0 1 0 m.N).1 else n) A' G' c' v L low (if (cK n.pu m.k 0 1 0 m.N).2=true then m.I::l else l))/\∀j o,j≠wb->j≠mb->w.heap[j]?=some o->w'.heap[j]?=some o:=by
 have hq:((l.length:Int) == 40)=false:=Aae
 have HGN:=Hq (λw1 (hb:aG w w1)=>acn A.p A.cp n.pu m.k m.N E w1 hz.p hz.pk hk (GR.At.below h.wk.no.p.at hb) (he.below (h.wk.keep.trans (hb.mono h.wk.keep.size))));unfold jK at HGN;clear hz hk he;have HW:=Hq h;obtain⟨mK,mF,mT,mI,mL,mk,mN⟩:=m;dsimp only at *;generalize cK n.pu mk 0 1 0 mN=r at *;open aot in exact awg
theorem WK.seenPut {w0 w:World} {wb:Nat} {n:Nd} {A:bg} {G:aR} {c:Nat->Nat} {v:Value} {L:List Mg} (h:WK w0 w wb n A G c v L) (k:Nat) (hk:k < n.seen.length) (s:Sn) (b:Option Addr) (cc gi:Nat) (hi:GR.W aW 1 w b gi s.ids) (h5:∀x∈fp gi s.ids,c x=5/\x∉uo G.i n.seen):
 WK w0 (GR.setW w G.s (k*3) [.int .i64 s.f,.int .i64 s.l,.slice b s.ids.length cc]) wb (dS n (n.seen.set k s)) A ⟨G.k,G.p,G.o,G.s,G.r,uQ G.i k gi⟩ c v L:=by
 have c4:c G.s=4:=h.no.c4 G.s (dH Aaa);have hkc:KC c 4 w (GR.setW w G.s (k*3) [.int .i64 s.f,.int .i64 s.l,.slice b s.ids.length cc]):=KC.setW _ c4;have hN:=h.no;have hlen:(n.seen.set k s).length=n.seen.length:=aGd ..
 have hci:∀x∈uo (uQ G.i k gi) (n.seen.set k s),c x=5:=λx hx=>by
  obtain⟨i,hi',rfl,hpos⟩:=uK hx
  unfold uQ
  by_cases e:i=k
  .subst e;rw [aER rfl];rw [aFi] at hpos;exact(h5 gi (dH hpos)).1
  .rw [aEG e];rw [aE4 Aaa] at hpos;exact hN.ci _ (jE Aaa _ (dH hpos))
 refine⟨hkc.below h.keep hN.lo Aaa h.keep.size,?_,⟨hkc.w hN.k hN.ck Aaa,hkc.w hN.p hN.cp Aaa,hkc.own hN.o hN.co Aaa,?_,hkc.own hN.r hN.cr Aaa,hN.lo,hN.ck,hN.cp,hN.co,?_,hci,hN.cr,?_⟩,hkc.own h.m h.cm Aaa,h.cm,h.cw⟩
 .have hb:=hkc.obj h.blk (by rw [h.cw];omega)
  have e:XB (dS n (n.seen.set k s)) A v=XB n A v:=by
   unfold XB dS;rw [hlen]
  rw [e];exact hb
 .exact hN.s.store k hk s b cc gi hi (λx hx e=>by have:=hN.ci x hx;rw [e,c4] at this;cases this) (λx hx e=>by have:=(h5 x hx).1;rw [e,c4] at this;cases this)
 .intro x hx;have h1:x=G.s:=(dz hx).1;rw [h1];exact c4
 .show(uo (uQ G.i k gi) (n.seen.set k s)).Nodup
  have hni:=(pR G.i n.seen).1 hN.ni;rw [pR];intro i j hi' hj' hij h1 h2;have hil:i < n.seen.length:=Aaa
  have hjl:j < n.seen.length:=Aaa
  unfold uQ;by_cases ei:i=k
  .subst ei;rw [aER rfl,aEG Aaa];rw [aFi] at h1;rw [aE4 Aaa] at h2;exact λe=>(h5 gi (dH h1)).2 (e▸jE hjl _ (dH h2))
  .rw [aEG ei];rw [aE4 Aaa] at h1;by_cases ej:j=k
   .subst ej;rw [aER rfl];rw [aFi] at h2;exact λe=>(h5 gi (dH h2)).2 (e▸jE hil _ (dH h1))
   .rw [aEG ej];rw [aE4 Aaa] at h2;exact hni i j hil hjl hij h1 h2
theorem alk (f lo:Int) (b:Option Addr) (q cc B:Nat) (m:Mg) (w:World) (hB:w.heap[B]?=some (.cells (bH m.K m.F m.T m.I m.L m.k m.N) 104 (0,0))):
 Calls prog 252 #[.agg #[.int .i64 f,.int .i64 lo,.slice b q cc],.pointer (some ⟨B,0,none⟩)] w (dK w (.bool (f == m.F))):=by
 have hBl:=ay hB;obtain⟨⟨p0,p1,p2,p3,p4,p5,p6⟩,_⟩:=dY hB;clear hB;obtain⟨mK,mF,mT,mI,mL,mk,mN⟩:=m;dsimp only at *;go_in
 exact Wy
theorem afq (a:Option Addr) (cap:Nat) (l:List Sn) (B:Nat) (m:Mg) (w:World) (hl:l.length<=1000) (ha:gT w a l) (hB:w.heap[B]?=some (.cells (bH m.K m.F m.T m.I m.L m.k m.N) 104 (0,0))) (hf:iH l m.F < l.length):
 Calls prog 251 #[.slice a l.length cap,.func (.func 252) #[] #[.pointer (some ⟨B,0,none⟩)]] w (dK w (.int .i64 (iH l m.F:Nat))):=by
 have HC:=Hq (λf lo b q cc w1 (hb:aG w w1)=>alk f lo b q cc B m w1 (aj hB hb));have HA:=Hq ha
 have HN:Hid (∀i (hi:i < l.length),i < iH l m.F->(l[i].f == m.F)=false):=λi hi h=>by
  have:=List.not_of_lt_findIdx h
  simpa using this
 have HY:Hid (∀(hi:iH l m.F < l.length),(l[iH l m.F].f == m.F)=true):=λhi=>by
  have:=aGr (p:=λt:Sn=>decide (t.f=m.F)) (w:=hi)
  exact beq_iff_eq.2 (aEQ this)
 clear ha hB;generalize iH l m.F=R at *;go_in
 go_wp2_with fail;go_loopw [8] (λi wr=>∃k:Nat,k<=R/\i= .int .i64 k/\aG w wr) (λi _=>l.length - (intOf i).toNat)
 case atStart=>exact vQ
 case round=>
  obtain⟨k,hk,rfl,hbw⟩:=hrel;have HB:=Hq hbw;have hkl:k < l.length:=Aaa
  have aB4:(k:Int) < (l.length:Int):=Aaa
  obtain⟨g,off,b,cc,e0,hg,q0,q1,q2,_⟩:=gT.below HA hbw k hkl;have HCk:=Hq (HC l[k].f l[k].l b l[k].ids.length cc);have HNk:=Hq (HN k hkl)
  have HYk:Hid (k=R->(l[k].f == m.F)=true):=λe=>by
   subst e
   exact HY hkl
  subst e0;clear hbw HC HN HY;generalize l[k]=sk at *;obtain⟨sf,sl,si⟩:=sk;dsimp only at q0 q1 q2 HCk HNk HYk;by_cases hR:k=R
  .have hq:=ah HYk hR;subst hR;open arJ in exact aeI
  .have hq:=ah HNk Aaa;open arI in exact aeI
abbrev jH (w:World) (B:Nat) (m:Mg):Prop:=w.heap[B]?=some (.cells (bH m.K m.F m.T m.I m.L m.k m.N) 104 (0,0))
theorem UL {w:World} (h:jH w j mm) (hs:kR w sb mb low):j≠sb:=λe=>by
 unfold jH at h;unfold kR at hs;rw [e,hs] at h;simp at h
theorem YN {w:World} {wb:Nat} {n:Nd} {A:bg} {v:Value} (h:jH w j mm) (hs:w.heap[wb]?=some (.cells (XB n A v) 254 (0,0))):j≠wb:=λe=>by
 unfold jH at h;rw [e,hs] at h;simp at h
theorem QH {w:World} {i q cc:Nat} {b:Option Addr} (h:jH w j mm) (hc:w.cell? ⟨g,i*3+2,none⟩=some (.slice b q cc)):j≠g:=λe=>by
 subst e;have h1:=aEz w j (i*3+2) _ _ (0,0) h;rw [hc] at h1;rcases i with _|_|i
 .simp at h1
 .simp at h1
 .rw [aFp Aae] at h1;cases h1
theorem acO (s:Sn) (low:Int):max s.l low=fH s low:=by
 unfold fH;split<;>omega
theorem qJ.lift {w0 w w':World} {wb sb mb k:Nat} {n:Nd} {A:bg} {G:aR} {c:Nat->Nat} {v:Value} {L:List Mg} {low ayJ:Int} {l l':List Int} (h:qJ w0 w wb sb mb k n A G c v L low l) (hb:kR w' sb mb ayJ) (hs:fq w' mb k l') (hk:aC [sb,mb] w w'):qJ w0 w' wb sb mb k n A G c v L ayJ l':=
 ⟨h.wk.kc (KC.keeps hk (λx hx=>by
  have h2:x=sb\/x=mb:=Aad
  rcases h2 with rfl|rfl
  .exact h.cs
  .exact h.cm)) Aaa,hb,hs,h.cs,h.cm⟩
theorem aaf (m:Mg) (E:Nat->Addr) (i:Nat) (s0:Sn) (TT:Nd×Bool) (hi:i < n.seen.length) (hie:iH n.seen m.F=i) (hs0:n.seen[i]=s0) (hTT:takeN n m=TT) (hsl:n.seen.length<=1000) (hsn:vK s0=true) (hz:eH n 1048576) (hk:m.k.size<=1048576) (hL1:m.L<=1000000000) (hI0:0<=m.I) (hI1:m.I<=1000000000) (h:WK w0 w wb n A G c v L) (he:gX w0 E):
 Calls prog 228 #[.pointer (some ⟨wb,0,none⟩),nT m] w λe w'=>e= .returned (.bool TT.2)/\(∃A' G' c',WK w0 w' wb TT.1 A' G' c' v L)/\∀j mm,jH w j mm->jH w' j mm:=by
 have HIX:=Hq (λB w1 (ha:gT w1 A.s n.seen) hB=>afq A.s A.cs n.seen B m w1 hsl ha hB (by rw [hie];exact hi));rw [hie] at HIX;have XK:Hid (rX s0 m.L m.I=true->_):=λh=>hTT.symm.trans (K9 hi hie hs0 h)
 have Tw:Hid (rX s0 m.L m.I=false->lS n s0 m=true->_):=λh hg=>hTT.symm.trans (Hf hi hie hs0 h hg)
 have HTN:Hid (rX s0 m.L m.I=false->lS n s0 m=false->_):=λh hg=>hTT.symm.trans (R8 hi hie hs0 h hg)
 have Du:=Hq (tJ (Mw hsn hL1));have aex:=Hq (tJ hsn);have HMX:=Hq (acO s0 m.L);have HGS:=Hq (λw sb mb k A G c low l hkk hnd hf h=>Sr w0 w wb sb mb k n A G c v L m low l E hz hk hI0 hI1 hkk hnd hf h he);have HGF:=Hq (λw sb mb k A G c low l hnd hf h=>Sq w0 w wb sb mb k n A G c v L m low l hnd hf h);have EL:=Hq hs0;clear hz hk he hsn hL1 hTT hie hs0;have HW:=Hq h;obtain⟨mK,mF,mT,mI,mL,mk,mN⟩:=m;dsimp only at *;open aty in exact aaO
theorem ad3 (m:Mg) (E:Nat->Addr) (hz:eH n 1048576) (hok:dQ n=true) (hF:dU n m.F=true) (hk:m.k.size<=1048576) (hL1:m.L<=1000000000) (hI0:0<=m.I) (hI1:m.I<=1000000000) (h:WK w0 w wb n A G c v L) (he:gX w0 E):
 Calls prog 228 #[.pointer (some ⟨wb,0,none⟩),nT m] w λe w'=>e= .returned (.bool (takeN n m).2)/\(∃A' G' c',WK w0 w' wb (takeN n m).1 A' G' c' v L)/\∀j mm,jH w j mm->jH w' j mm:=by
 obtain⟨hi,hif⟩:=Gq hok hF;have hsn:=AZ hok _ (aEL hi)
 have hsl:n.seen.length<=1000:=by
  exact axG
 exact aaf w0 w wb n A G c v L m E _ _ _ hi rfl rfl rfl hsl hsn hz hk hL1 hI0 hI1 h he
end Go.Proofs.YtfachhcijcjbpaaGreatDoor
