/- Parts. -/
import Derived.Test.YtbolgdleijjgfaaGreatDoorRf37
namespace Go.Proofs.YtbolgdleijjgfaaGreatDoor
open Go.Proofs.Tryz
set_option maxHeartbeats 8000000
set_option maxRecDepth 100000
open Go.RowKit Go.Maps
open Mth
variable (w0 w:World) (wb:Nat) (n:Nd) (A:bq) (G:aN) (c:Nat->Nat) (v:Value) (L:List Mg) {k mb i sb j g:Nat} {l R:List jI} {low:Int} {w':World} {mm:Mg} {rest:List Value}
structure rJ (w0 w:World) (wb sb mb k:Nat) (n:Nd) (A:bq) (G:aN) (c:Nat->Nat) (v:Value) (L:List Mg) (low:Int) (l:List Int):Prop where
 wk:WK w0 w wb n A G c v L
 bk:lI w sb mb low
 si:fH w mb k l
 cs:c sb=9
 cm:c mb=9
theorem rJ.step {w0 w:World} {wb:Nat} {n:Nd} {A:bq} {G:aN} {c:Nat->Nat} {v:Value} {L:List Mg} {l:List Int} (h:rJ w0 w wb sb mb k n A G c v L low l) (hb:aH w w'):rJ w0 w' wb sb mb k n A G c v L low l:=
 ⟨h.wk.step hb,aj h.bk hb,h.si.kept (hb.block mb h.si.lt),h.cs,h.cm⟩
theorem rJ.ne {w0 w:World} {wb:Nat} {n:Nd} {A:bq} {G:aN} {c:Nat->Nat} {v:Value} {L:List Mg} {l:List Int} (h:rJ w0 w wb sb mb k n A G c v L low l):sb≠wb/\mb≠wb:=by
 have h8:=h.wk.cw;refine⟨λe=>?_,λe=>?_⟩
 .have:=h.cs;rw [e,h8] at this;cases this
 .have:=h.cm;rw [e,h8] at this;cases this
theorem rJ.settled {w0 w x:World} {wb:Nat} {n n':Nd} {A A':bq} {G G':aN} {c c':Nat->Nat} {v:Value} {L:List Mg} {l:List Int} (h:rJ w0 w wb sb mb k n A G c v L low l) (hb:aH w x) (hw:WK w0 w' wb n' A' G' c' v L) (hk:∀k o,k≠wb->x.heap[k]?=some o->w'.heap[k]?=some o) (hc:∀k,k < w.heap.size->c' k=c k):rJ w0 w' wb sb mb k n' A' G' c' v L low l:=by
 have h1:=h.step hb;refine⟨hw,hk sb _ h.ne.1 h1.bk,?_,(hc sb (ay h.bk)).trans h.cs,(hc mb h.si.lt).trans h.cm⟩;obtain⟨D,⟨es,clock,hbk,rest⟩,ha⟩:=h1.si;exact⟨D,⟨es,clock,hk mb _ h.ne.2 hbk,rest⟩,ha⟩
theorem rJ.put {w0 w:World} {wb:Nat} {n:Nd} {A:bq} {G:aN} {c:Nat->Nat} {v:Value} {L:List Mg} {x:Int} {l:List Int} (h:rJ w0 w wb sb mb k n A G c v L low l) (hs:fH w' mb (k+1) (x::l)) (hk:Keeps mb w w'):rJ w0 w' wb sb mb (k+1) n A G c v L low (x::l):=by
 have hne:=h.si.ne h.bk;have hkc:KC c 9 w w':=⟨hk.os,hk.tape,hk.output,hk.size,λy hy hc=>hk.block y hy (λe=>hc (by rw [e];exact h.cm))⟩;exact⟨h.wk.kc hkc Aaa,by unfold lI;rw [hk.block sb (ay h.bk) hne];exact h.bk,hs,h.cs,h.cm⟩
theorem aCY {w:World} {l:List Int} (h:fH w mb k l) (hl:l.Nodup) (d:Nat) (os:Array Obj) (ty:TypeId):(Builtin.len_ #[304] ty #[.map (some mb)]).run prog (Sort.grow (redrawn w d) os)= .ok (.int .i64 l.length) (Sort.grow (redrawn w d) os):=
 (h.kept ((aFl w d os).block mb h.lt)).len hl ty
theorem RV (w0 w:World) (wb sb mb k:Nat) (n:Nd) (A:bq) (G:aN) (c:Nat->Nat) (v:Value) (L:List Mg) (m:Mg) (low:Int) (l:List Int) (hnd:l.Nodup) (hf:l.length=40) (h:rJ w0 w wb sb mb k n A G c v L low l):Calls prog 251 #[.pointer (some ⟨wb,0,none⟩),oJ m,.pointer (some ⟨sb,0,none⟩)] w λe w'=>e= .returned (.bool false)/\aH w w':=by
 have hq:((l.length:Int) == 40)=true:=Aah
 have HW:=Hq h;obtain⟨mK,mF,mT,mI,mL,mk,mN⟩:=m;skip
 open aoz in exact awR
theorem RY (w0 w:World) (wb sb mb k:Nat) (n:Nd) (A:bq) (G:aN) (c:Nat->Nat) (v:Value) (L:List Mg) (m:Mg) (low:Int) (l:List Int) (E:Nat->Addr) (hz:eG n 1048576) (hk:m.k.size<=1048576) (hi0:0<=m.I) (hi1:m.I<=1000000000) (hkk:k < 1000000) (hnd:l.Nodup) (hf:l.length < 40) (h:rJ w0 w wb sb mb k n A G c v L low l) (he:iy w0 E):Calls prog 251 #[.pointer (some ⟨wb,0,none⟩),oJ m,.pointer (some ⟨sb,0,none⟩)] w λe w'=>e= .returned (.bool (dB n.pu m.k 0 1 0 m.N).2)/\(∃A' G' c',rJ w0 w' wb sb mb (k+1) (if (dB n.pu m.k 0 1 0 m.N).2=true then setPu n (dB n.pu m.k 0 1 0 m.N).1 else n) A' G' c' v L low (if (dB n.pu m.k 0 1 0 m.N).2=true then m.I::l else l))/\∀j o,j≠wb->j≠mb->w.heap[j]?=some o->w'.heap[j]?=some o:=by
 have hq:((l.length:Int) == 40)=false:=Aah
 have HGN:=Hq (λw1 (hb:aH w w1)=>acf A.p A.cp n.pu m.k m.N E w1 hz.p hz.pk hk (GR.At.below h.wk.no.p.at hb) (he.below (h.wk.keep.trans (hb.mono h.wk.keep.size))));unfold j6 at HGN;clear hz hk he;have HW:=Hq h;obtain⟨mK,mF,mT,mI,mL,mk,mN⟩:=m;dsimp only at *;generalize dB n.pu mk 0 1 0 mN=r at *;open aoy in exact awR
theorem WK.seenPut {w0 w:World} {wb:Nat} {n:Nd} {A:bq} {G:aN} {c:Nat->Nat} {v:Value} {L:List Mg} (h:WK w0 w wb n A G c v L) (k:Nat) (hk:k < n.seen.length) (s:Sn) (b:Option Addr) (cc gi:Nat) (hi:GR.W bg 1 w b gi s.ids) (h5:∀x∈fp gi s.ids,c x=5/\x∉nI G.i n.seen):
 WK w0 (GR.setW w G.s (k*3) [.int .i64 s.f,.int .i64 s.l,.slice b s.ids.length cc]) wb (dX n (n.seen.set k s)) A ⟨G.k,G.p,G.o,G.s,G.r,vJ G.i k gi⟩ c v L:=by
 have c4:c G.s=4:=h.no.c4 G.s (dK Aaa);have hkc:KC c 4 w (GR.setW w G.s (k*3) [.int .i64 s.f,.int .i64 s.l,.slice b s.ids.length cc]):=KC.setW _ c4;have hN:=h.no;have hlen:(n.seen.set k s).length=n.seen.length:=aF6 ..
 have hci:∀x∈nI (vJ G.i k gi) (n.seen.set k s),c x=5:=λx hx=>by
  obtain⟨i,hi',rfl,hpos⟩:=sV hx
  unfold vJ
  by_cases e:i=k
  .subst e;rw [aFc rfl];rw [aFo] at hpos;exact(h5 gi (dK hpos)).1
  .rw [aE2 e];rw [aFq Aaa] at hpos;exact hN.ci _ (jD Aaa _ (dK hpos))
 refine⟨hkc.below h.keep hN.lo Aaa h.keep.size,?_,⟨hkc.w hN.k hN.ck Aaa,hkc.w hN.p hN.cp Aaa,hkc.own hN.o hN.co Aaa,?_,hkc.own hN.r hN.cr Aaa,hN.lo,hN.ck,hN.cp,hN.co,?_,hci,hN.cr,?_⟩,hkc.own h.m h.cm Aaa,h.cm,h.cw⟩
 .have hb:=hkc.obj h.blk (by rw [h.cw];omega)
  have e:Xr (dX n (n.seen.set k s)) A v=Xr n A v:=by
   unfold Xr dX;rw [hlen]
  rw [e];exact hb
 .exact hN.s.store k hk s b cc gi hi (λx hx e=>by have:=hN.ci x hx;rw [e,c4] at this;cases this) (λx hx e=>by have:=(h5 x hx).1;rw [e,c4] at this;cases this)
 .intro x hx;have h1:x=G.s:=(dw hx).1;rw [h1];exact c4
 .show(nI (vJ G.i k gi) (n.seen.set k s)).Nodup
  have hni:=(qB G.i n.seen).1 hN.ni;rw [qB];intro i j hi' hj' hij h1 h2;have hil:i < n.seen.length:=Aaa
  have hjl:j < n.seen.length:=Aaa
  unfold vJ;by_cases ei:i=k
  .subst ei;rw [aFc rfl,aE2 Aaa];rw [aFo] at h1;rw [aFq Aaa] at h2;exact λe=>(h5 gi (dK h1)).2 (e▸jD hjl _ (dK h2))
  .rw [aE2 ei];rw [aFq Aaa] at h1;by_cases ej:j=k
   .subst ej;rw [aFc rfl];rw [aFo] at h2;exact λe=>(h5 gi (dK h2)).2 (e▸jD hil _ (dK h1))
   .rw [aE2 ej];rw [aFq Aaa] at h2;exact hni i j hil hjl hij h1 h2
theorem ak5 (f lo:Int) (b:Option Addr) (q cc B:Nat) (m:Mg) (w:World) (hB:w.heap[B]?=some (.cells (bX m.K m.F m.T m.I m.L m.k m.N) 70 (0,0))):
 Calls prog 247 #[.agg #[.int .i64 f,.int .i64 lo,.slice b q cc],.pointer (some ⟨B,0,none⟩)] w (dU w (.bool (f == m.F))):=by
 have hBl:=ay hB;obtain⟨⟨p0,p1,p2,p3,p4,p5,p6⟩,_⟩:=eF hB;clear hB;obtain⟨mK,mF,mT,mI,mL,mk,mN⟩:=m;dsimp only at *;go_in
 exact Wl
theorem afe (a:Option Addr) (cap:Nat) (l:List Sn) (B:Nat) (m:Mg) (w:World) (hl:l.length<=1000) (ha:iA w a l) (hB:w.heap[B]?=some (.cells (bX m.K m.F m.T m.I m.L m.k m.N) 70 (0,0))) (hf:iU l m.F < l.length):
 Calls prog 246 #[.slice a l.length cap,.func (.func 247) #[] #[.pointer (some ⟨B,0,none⟩)]] w (dU w (.int .i64 (iU l m.F:Nat))):=by
 have HC:=Hq (λf lo b q cc w1 (hb:aH w w1)=>ak5 f lo b q cc B m w1 (aj hB hb));have HA:=Hq ha
 have HN:Hid (∀i (hi:i < l.length),i < iU l m.F->(l[i].f == m.F)=false):=λi hi h=>by
  have:=List.not_of_lt_findIdx h
  simpa using this
 have HY:Hid (∀(hi:iU l m.F < l.length),(l[iU l m.F].f == m.F)=true):=λhi=>by
  have:=aGR (p:=λt:Sn=>decide (t.f=m.F)) (w:=hi)
  exact beq_iff_eq.2 (aFa this)
 clear ha hB;generalize iU l m.F=R at *;go_in
 go_wp2_with fail;go_loopw [8] (λi wr=>∃k:Nat,k<=R/\i= .int .i64 k/\aH w wr) (λi _=>l.length - (intOf i).toNat)
 case atStart=>exact BZ
 case round=>
  obtain⟨k,hk,rfl,hbw⟩:=hrel;have HB:=Hq hbw;have hkl:k < l.length:=Aaa
  have aCs:(k:Int) < (l.length:Int):=Aaa
  obtain⟨g,off,b,cc,e0,hg,q0,q1,q2,_⟩:=iA.below HA hbw k hkl;have HCk:=Hq (HC l[k].f l[k].l b l[k].ids.length cc);have HNk:=Hq (HN k hkl)
  have HYk:Hid (k=R->(l[k].f == m.F)=true):=λe=>by
   subst e
   exact HY hkl
  subst e0;clear hbw HC HN HY;generalize l[k]=sk at *;obtain⟨sf,sl,si⟩:=sk;dsimp only at q0 q1 q2 HCk HNk HYk;by_cases hR:k=R
  .have hq:=ah HYk hR;subst hR;open arS in exact VP
  .have hq:=ah HNk Aaa;open arR in exact VP
abbrev jY (w:World) (B:Nat) (m:Mg):Prop:=w.heap[B]?=some (.cells (bX m.K m.F m.T m.I m.L m.k m.N) 70 (0,0))
theorem Ux {w:World} (h:jY w j mm) (hs:lI w sb mb low):j≠sb:=λe=>by
 unfold jY at h;unfold lI at hs;rw [e,hs] at h;simp at h
theorem YV {w:World} {wb:Nat} {n:Nd} {A:bq} {v:Value} (h:jY w j mm) (hs:w.heap[wb]?=some (.cells (Xr n A v) 215 (0,0))):j≠wb:=λe=>by
 unfold jY at h;rw [e,hs] at h;simp at h
theorem Qu {w:World} {q cc:Nat} {b:Option Addr} (h:jY w j mm) (hc:w.cell? ⟨g,i*3+2,none⟩=some (.slice b q cc)):j≠g:=λe=>by
 subst e;have h1:=aE1 w j (i*3+2) _ _ (0,0) h;rw [hc] at h1;rcases i with _|_|i
 .simp at h1
 .simp at h1
 .rw [aFO Aah] at h1;cases h1
theorem acG (s:Sn) (low:Int):max s.l low=gu s low:=by
 unfold gu;split<;>omega
theorem rJ.lift {w0 w w':World} {wb sb mb k:Nat} {n:Nd} {A:bq} {G:aN} {c:Nat->Nat} {v:Value} {L:List Mg} {low azh:Int} {l l':List Int} (h:rJ w0 w wb sb mb k n A G c v L low l) (hb:lI w' sb mb azh) (hs:fH w' mb k l') (hk:aA [sb,mb] w w'):rJ w0 w' wb sb mb k n A G c v L azh l':=
 ⟨h.wk.kc (KC.keeps hk (λx hx=>by
  have h2:x=sb\/x=mb:=Aag
  rcases h2 with rfl|rfl
  .exact h.cs
  .exact h.cm)) Aaa,hb,hs,h.cs,h.cm⟩
theorem Z4 (m:Mg) (E:Nat->Addr) (i:Nat) (s0:Sn) (TT:Nd×Bool) (hi:i < n.seen.length) (hie:iU n.seen m.F=i) (hs0:n.seen[i]=s0) (hTT:takeN n m=TT) (hsl:n.seen.length<=1000) (hsn:wD s0=true) (hz:eG n 1048576) (hk:m.k.size<=1048576) (hL1:m.L<=1000000000) (hI0:0<=m.I) (hI1:m.I<=1000000000) (h:WK w0 w wb n A G c v L) (he:iy w0 E):
 Calls prog 223 #[.pointer (some ⟨wb,0,none⟩),oJ m] w λe w'=>e= .returned (.bool TT.2)/\(∃A' G' c',WK w0 w' wb TT.1 A' G' c' v L)/\∀j mm,jY w j mm->jY w' j mm:=by
 have HIX:=Hq (λB w1 (ha:iA w1 A.s n.seen) hB=>afe A.s A.cs n.seen B m w1 hsl ha hB (by rw [hie];exact hi));rw [hie] at HIX;have HTH:Hid (tF s0 m.L m.I=true->_):=λh=>hTT.symm.trans (K9 hi hie hs0 h)
 have SK:Hid (tF s0 m.L m.I=false->mH n s0 m=true->_):=λh hg=>hTT.symm.trans (Hw hi hie hs0 h hg)
 have HTN:Hid (tF s0 m.L m.I=false->mH n s0 m=false->_):=λh hg=>hTT.symm.trans (Rx hi hie hs0 h hg)
 have DW:=Hq (uw (Mk hsn hL1));have aek:=Hq (uw hsn);have HMX:=Hq (acG s0 m.L);have HGS:=Hq (λw sb mb k A G c low l hkk hnd hf h=>RY w0 w wb sb mb k n A G c v L m low l E hz hk hI0 hI1 hkk hnd hf h he);have HGF:=Hq (λw sb mb k A G c low l hnd hf h=>RV w0 w wb sb mb k n A G c v L m low l hnd hf h);have Il:=Hq hs0;clear hz hk he hsn hL1 hTT hie hs0;have HW:=Hq h;obtain⟨mK,mF,mT,mI,mL,mk,mN⟩:=m;dsimp only at *;open aum in exact aaM
theorem adT (m:Mg) (E:Nat->Addr) (hz:eG n 1048576) (hok:dV n=true) (hF:dY n m.F=true) (hk:m.k.size<=1048576) (hL1:m.L<=1000000000) (hI0:0<=m.I) (hI1:m.I<=1000000000) (h:WK w0 w wb n A G c v L) (he:iy w0 E):
 Calls prog 223 #[.pointer (some ⟨wb,0,none⟩),oJ m] w λe w'=>e= .returned (.bool (takeN n m).2)/\(∃A' G' c',WK w0 w' wb (takeN n m).1 A' G' c' v L)/\∀j mm,jY w j mm->jY w' j mm:=by
 obtain⟨hi,hif⟩:=GH hok hF;have hsn:=Bv hok _ (aE8 hi)
 have hsl:n.seen.length<=1000:=by
  exact ax9
 exact Z4 w0 w wb n A G c v L m E _ _ _ hi rfl rfl rfl hsl hsn hz hk hL1 hI0 hI1 h he
open Go.RowKit
abbrev aDp (s:jI):Value:= .agg (gN s.i s.t s.k s.n)
theorem WJ (s:jI) (B:Nat) (m:Mg) (w:World) (hB:jY w B m):
 Calls prog 225 #[aDp s,.pointer (some ⟨B,0,none⟩)] w (dU w (.bool (iW m s))):=by
 have hBl:=ay hB;obtain⟨⟨p0,p1,p2,p3,p4,p5,p6⟩,_⟩:=eF hB;clear hB;obtain⟨mK,mF,mT,mI,mL,mk,mN⟩:=m;obtain⟨si,st,sk,sn⟩:=s;unfold iW;dsimp only at *;by_cases h1:si=mI
 .by_cases h2:st=mF
  .subst h1 h2;go_in
   go_wp2_with fail;go_ret;exact⟨Aac,au w _⟩
  .have q2:(st == mF)=false:=by simpa using h2
   subst h1;go_in
   go_wp2_with fail;go_ret;exact⟨by simp[h2],au w _⟩
 .have q1:(si == mI)=false:=Aax
  go_in
  go_wp2_with fail;go_ret;exact⟨Abb,au w _⟩
def qM (l:List jI) (m:Mg):Nat:=l.findIdx (iW m)
theorem aff (a:Option Addr) (cap:Nat) (l:List jI) (B:Nat) (m:Mg) (w:World) (hl:l.length<=1000) (ha:SentAt w a l) (hB:jY w B m):
 Calls prog 253 #[.slice a l.length cap,.func (.func 225) #[] #[.pointer (some ⟨B,0,none⟩)]] w λe w'=>e= .returned (.int .i64 (if qM l m < l.length then(qM l m:Int) else -1))/\aH w w':=by
 have HC:=Hq (λs w1 (hb:aH w w1)=>WJ s B m w1 (aj hB hb));have HA:=Hq ha
 have HN:Hid (∀i (hi:i < l.length),i < qM l m->iW m l[i]=false):=λi hi h=>by
  have:=List.not_of_lt_findIdx h
  simpa using this
 have HY:Hid (∀(hi:qM l m < l.length),iW m l[qM l m]=true):=λhi=>aGR (w:=hi)
 have HLE:Hid (qM l m<=l.length):=List.findIdx_le_length;clear ha hB;generalize qM l m=R at *;go_in
 go_wp2_with fail;go_loopw [8] (λi wr=>∃k:Nat,k<=R/\i= .int .i64 k/\aH w wr) (λi _=>l.length - (intOf i).toNat)
 case atStart=>exact BZ
 case round=>
  obtain⟨k,hk,rfl,hbw⟩:=hrel;have HB:=Hq hbw;by_cases hkl:k < l.length
  .have aCs:(k:Int) < (l.length:Int):=Aaa
   obtain⟨g,off,e0,hg,q0,q1,q2,q3⟩:=SentAt.four (GR.At.below HA hbw) k hkl;have HCk:=Hq (HC l[k]);have HNk:=Hq (HN k hkl)
   have HYk:Hid (k=R->iW m l[k]=true):=λe=>by
    subst e
    exact HY hkl
   subst e0;clear hbw HC HN HY;generalize l[k]=sk at *;obtain⟨si,st,sx,sn⟩:=sk;dsimp only at q0 q1 q2 q3 HCk HNk HYk;by_cases hR:k=R
   .have hq:=ah HYk hR;subst hR;open arU in exact VP
   .have hq:=ah HNk Aaa;open arT in exact VP
  .have hRl:¬R < l.length:=Aaa
   have hke:k=l.length:=by have:=ah HLE;omega
   subst hke;have hnlt:decide ((l.length:Int) < (l.length:Int))=false:=Aac
   go_wp2_with fail;go_ret;exact⟨Aac,HB⟩
abbrev zS:List Value:=[.int .i64 0,.int .i64 0,.string ⟨#[]⟩,.int .i64 0]
theorem Jj (w:World) (ty:TypeId) (g o c:Nat) (cur:Array Value) (hg:w.heap[g]?=some (.cells cur 145 (0,0))) (hfit:o+4<=cur.size):
 (Builtin.clear_ #[35] ty #[.slice (some ⟨g,o,none⟩) 1 c]).run prog w= .ok (.tuple #[]) (w.setRow g (cur.toList.take o++zS++cur.toList.drop (o+4)).toArray):=by
 have hst:=run_storeCells_at prog g o 145 zS 0 cur w hg (by simpa using hfit) (by intro u hu;simp only[zS,aFd,aFW,or_false] at hu;rcases hu with rfl|rfl|rfl|rfl<;>rfl);have hzc:(Builtin.zeroCells (Value.cells (.agg (gN 0 0 ⟨#[]⟩ 0))) 1).toList=zS:=Aab
 have h1:(Builtin.clear_ #[35] ty #[.slice (some ⟨g,o,none⟩) 1 c]).run prog w=((storeCells ⟨g,o,none⟩ zS).run prog w).andThen λ_ w'=> .ok (.tuple #[]) w':=by
  simp[Builtin.clear_,run_underlying underlying35];rw [hzc]
 rw [h1,hst];rfl
theorem nO (l:List jI):(GR.flat aM l).length=l.length*4:=GR.flat_length aM 4 aT l
theorem Q5:∀(vs a b:List Value) (o:Nat),o+vs.length<=a.length->GR.setRun (a++b) o vs=GR.setRun a o vs++b:=by
 intro vs;induction vs with
 |nil=>intro a b o _;rfl
 |cons v vs ih=>
  intro a b o h;simp only[aGe] at h;show GR.setRun ((a++b).set o v) (o+1) vs=GR.setRun (a.set o v) (o+1) vs++b
  rw [List.set_append_left _ _ Aaa,ih _ _ _ (by rw [aF6];omega)]
abbrev SB (w:World) (g:Nat) (R:List jI) (rest:List Value):Prop:=w.heap[g]?=some (.cells (GR.flat aM R++rest).toArray 145 (0,0))
theorem SB.four {w:World} (h:SB w g R rest) (i:Nat) (hi:i < R.length):w.cell? ⟨g,i*4,none⟩=some (.int .i64 R[i].i)/\w.cell? ⟨g,i*4+1,none⟩=some (.int .i64 R[i].t)/\w.cell? ⟨g,i*4+2,none⟩=some (.string R[i].k)/\w.cell? ⟨g,i*4+3,none⟩=some (.int .i64 R[i].n):=by
 have hc:∀j,j < 4->w.cell? ⟨g,i*4+j,none⟩=(aM R[i])[j]?:=λj hj=>by
  rw [aE1 w g _ _ 145 (0,0) h,aGo,aGd (by rw [nO];omega)]
  exact GR.flat_at aM 4 aT R i hi j hj
 exact⟨hc 0 Aaa,hc 1 Aaa,hc 2 Aaa,hc 3 Aaa⟩
theorem SB.set {w:World} (h:SB w g R rest) (i:Nat) (hi:i < R.length) (x:jI):SB (GR.setW w g (i*4) (aM x)) g (R.set i x) rest:=by
 have h2:=GR.setW_blk (aM x) (o:=i*4) h;rw [Q5 _ _ _ _ (by rw [nO,aT];omega),GR.flat_set aM 4 aT R i x hi] at h2;exact h2
namespace Mth
def mh (l:List jI) (i k:Nat):List jI:=(l.eraseIdx i).take k++l.drop k
theorem TY (h:i < l.length):mh l i i=l:=by
 unfold mh;rw [List.eraseIdx_eq_take_drop_succ,List.take_append_of_le_length Abk,aGH,Nat.min_self,aFJ]
theorem Py (h:i < l.length) (hk:k < l.length):(mh l i k).length=l.length:=by
 unfold mh;rw [aEW,aFj,aFP h,aFA];omega
theorem ae6 (h:i < l.length) (hk:k+1 < l.length):(mh l i k)[k+1]?=some l[k+1]:=by
 unfold mh;rw [List.getElem?_append_right (by rw [aFj,aFP h];omega),aFj,aFP h,List.getElem?_drop];rw [show k+(k+1 - min k (l.length - 1))=k+1 by omega,aEV hk]
theorem Ym (h:i<=k) (hk:k+1 < l.length):(mh l i k).set k l[k+1]=mh l i (k+1):=by
 have hlt:(List.take k (l.eraseIdx i)).length=k:=by rw [aFj,aFP Aaa];omega
 unfold mh;rw [aGg _ _ Aaa,hlt,Nat.sub_self,aFD (show k < l.length by omega),List.set_cons_zero];have hke:k < (l.eraseIdx i).length:=by rw [aFP Aaa];omega
 rw [aE0 hke,List.getElem_eraseIdx_of_ge hke h,aFx];rfl
theorem abK (h:i < l.length):mh l i (l.length - 1)=l.eraseIdx i++l.drop (l.length - 1):=by
 unfold mh;rw [aGn (by rw [aFP h];omega)]
theorem abm {l:List jI} {m:Mg} (h:¬qM l m < l.length):l.filter (λs=> !iW m s)=l:=by
 rw [List.filter_eq_self];intro s hs;have h1:¬∃x∈l,iW m x=true:=λhx=>h (List.findIdx_lt_length_of_exists hx)
 cases hq:iW m s with
 |false=>rfl
 |true=>exact absurd ⟨s,hs,hq⟩ h1
theorem aeI {m:Mg} (hp:l.Pairwise (λs t=>s.i < t.i)) (h:qM l m < l.length):l.filter (λs=> !iW m s)=l.eraseIdx (qM l m):=by
 have hy:iW m l[qM l m]=true:=aGR (w:=h);have hid:l[qM l m].i=m.I:=(aFa hy).1
 have hno:∀j (hj:j < l.length),j≠qM l m->iW m l[j]=false:=λj hj hne=>by
  cases hq:iW m l[j] with
  |false=>rfl
  |true=>
   exfalso
   have h1:l[j].i=m.I:=(aFa hq).1;rcases Nat.lt_or_gt_of_ne hne with hlt|hgt
   .have:=aFV.1 hp j _ hj h hlt;omega
   .have:=aFV.1 hp _ j h hj hgt;omega
 have e:l=l.take (qM l m)++l[qM l m]::l.drop (qM l m+1):=by rw [<-aFD h,aFJ]
 rw [List.eraseIdx_eq_take_drop_succ];generalize qM l m=R at *;have ef:l.filter (λs=> !iW m s)=(l.take R++l[R]::l.drop (R+1)).filter (λs=> !iW m s):=by rw [<-e]
 rw [ef,List.filter_append,List.filter_cons_of_neg (by rw [hy];simp)];congr 1
 .rw [List.filter_eq_self];intro s hs;obtain⟨j,hj,rfl⟩:=aF3.1 hs;rw [aFj] at hj;rw [List.getElem_take,hno j Aaa Aaa];rfl
 .rw [List.filter_eq_self];intro s hs;obtain⟨j,hj,rfl⟩:=aF3.1 hs;rw [aFA] at hj;rw [List.getElem_drop,hno (R+1+j) Aaa Aaa];rfl
end Mth
theorem TM (g cap:Nat) (l:List jI) (rest:List Value) (B R:Nat) (m:Mg) (w:World) (hl:l.length<=1000) (hR:R < l.length) (hno:∀j (hj:j < l.length),R < j->iW m l[j]=false) (hnc:l.length<=cap) (hcm:cap<=maxLen) (hrl:l.length*4+rest.length=cap*4) (hB:jY w B m) (hS:SB w g l rest) (hix:Calls Tryz.prog 253 #[.slice (some ⟨g,0,none⟩) l.length cap,.func (.func 225) #[] #[.pointer (some ⟨B,0,none⟩)]] w (dU w (.int .i64 (R:Int)))):
 Calls Tryz.prog 224 #[.slice (some ⟨g,0,none⟩) l.length cap,.func (.func 225) #[] #[.pointer (some ⟨B,0,none⟩)]] w λe w'=>e= .returned (.slice (some ⟨g,0,none⟩) (l.length - 1) cap)/\(∃ajh,SB w' g (l.eraseIdx R) ajh/\(l.length - 1)*4+ajh.length=cap*4)/\w.grownBy w' (some g):=by
 have hne:B≠g:=λe=>by
  unfold jY at hB
  unfold SB at hS
  rw [e,hS] at hB
  simp at hB
 have HC:=Hq (λs w1 (hg:w.grownBy w1 (some g))=>WJ s B m w1 ((hg.block B (ay hB) (λe=>hne (by injection e))).trans hB));have nA:=Hq hno;have Il:=Hq hS;have HIX:=Hq hix;have hRI:¬((R:Int)= -1):=Aaa
 have hRb:((R:Int) == -1)=false:=aGs.2 hRI;clear hB hno hS hix hne;go_in
 go_wp2_with fail;refine HIX.mono ?_;rintro e w1 ⟨rfl,hb1⟩;have zJ:=Hq (aj Il hb1);have xY:=Hq (gT hb1 (some g));clear hb1 HIX;go_wp2_with fail;go_loopw [5,6] (λi j wr=>∃k jj:Nat,jj=k+1/\R<=k/\k < l.length/\i= .int .i64 k/\j= .int .i64 jj/\SB wr g (mh l R k) rest/\w.grownBy wr (some g)) (λi j _=>l.length - (intOf j).toNat)
 case atStart=>exact⟨R,R+1,rfl,aER _,hR,rfl,rfl,by rw [TY hR];exact zJ,xY⟩
 case round=>
  obtain⟨k,jj,hjj,hk1,hk2,rfl,rfl,hSk,hGk⟩:=hrel;have HJJ:=Hq hjj;have HSk:=Hq hSk;have HGk:=Hq hGk;have hgl:=ay hSk;clear hSk hGk;by_cases hlt:k+1 < l.length
  .have PI:(jj:Int) < (l.length:Int):=Aaa
   have hkI:(k:Int) < (l.length:Int):=Aaa
   have ayI:k+1 < (mh l R k).length:=by rw [Py hR hk2];exact hlt
   have hqs:=SB.four HSk (k+1) ayI
   have hat:(mh l R k)[k+1]=l[k+1]:=by
    have:=ae6 hR hlt;rw [aEV ayI] at this;exact aFI this
   rw [hat] at hqs;have HST:=Hq (Ym hk1 hlt);have HNk:=Hq (nA (k+1) hlt Aaa);have HCk:=Hq (HC l[k+1]);clear hat;generalize l[k+1]=sk at *;rw [<-hjj] at hqs;obtain⟨q0,q1,q2,q3⟩:=hqs;clear hjj;obtain⟨si,st,sx,sn⟩:=sk;dsimp only at q0 q1 q2 q3 HNk HCk;go_upto_region 8 with fail;refine wp_at (λW hW=>?_);have e1:W.heap[wr.heap.size]?=some (.cells (gN si st sx sn) 145 (0,0)):=Ach
   have iQ:Hid (aH wr W):=by rw [hW];exact au wr _
   obtain⟨c0,c1,c2,c3⟩:=iI e1;have hwl:=ay e1;have E1:=Hq e1;clear hW e1 q0 q1 q2 q3;go_wp2_with fail;refine(HCk W (HGk.andThen (gT iQ none) (λj hj=>by cases hj))).mono ?_;rintro e W2 ⟨rfl,hb2⟩;have E2:=Hq (aj E1 hb2);have HB2:=Hq (iQ.trans (hb2.mono iQ.size));have HS2:=Hq (aj HSk HB2);have HG2:=Hq (HGk.andThen (gT HB2 none) (λj hj=>by cases hj));have ayM:k < (mh l R k).length:=Aaa
   obtain⟨r0,r1,r2,r3⟩:=SB.four HS2 k ayM;have f0:=aC HS2 (k*4);have f1:=aC HS2 (k*4+1);have f2:=aC HS2 (k*4+2);have f3:=aC HS2 (k*4+3);have aDT:=ay HS2;have akV:=ay E2;rw [ah HNk];clear c0 c1 c2 c3 hb2;obtain⟨c0,c1,c2,c3⟩:=iI E2;have vQ:=Hq (SB.set HS2 k ayM ⟨si,st,sx,sn⟩)
   have Ir:Hid (W2.grownBy (GR.setW W2 g (k*4) (aM ⟨si,st,sx,sn⟩)) (some g)):=by
    have h:=gI (g:=g) (aM ⟨si,st,sx,sn⟩) W2 (k*4);exact⟨h.os,h.tape,h.output,h.size,λx hx hne=>h.block x hx (λhm=>hne (by have:x=g:=(by simpa using hm);rw [this]))⟩
   rw [ah HST] at vQ;go_wp2_with fail;go_roundw
   case rel=>exact⟨k+1,jj+1,by have:=ah HJJ;omega,Aaa,hlt,Aaf,Aaf,vQ,HG2.andThen Ir (λj hj=> .inr hj)⟩
   case measure=>simp[intOf];omega
  .have hke:l.length - 1=k:=Aaa
   have hjl:jj=l.length:=Aaa
   have akx:l.length - k=1:=Aaa
   have ayJ:=Py hR hk2;have hend:=abK hR;rw [hke] at hend;have hel:(l.eraseIdx R).length=k:=by rw [aFP hR];exact hke
   have hXl:(GR.flat aM (mh l R k)++rest).length=cap*4:=by rw [aEW,nO,ayJ];exact hrl
   have hcl:∀ty c,(Builtin.clear_ #[35] ty #[.slice (some ⟨g,k*4,none⟩) 1 c]).run Tryz.prog wr= .ok (.tuple #[]) (wr.setRow g ((GR.flat aM (mh l R k)++rest).take (k*4)++zS++(GR.flat aM (mh l R k)++rest).drop (k*4+4)).toArray):=λty c=>by
    have h:=Jj wr ty g (k*4) c _ HSk (by rw [aFM,hXl];omega)
    exact h
   have HFB:Hid (SB (wr.setRow g ((GR.flat aM (mh l R k)++rest).take (k*4)++zS++(GR.flat aM (mh l R k)++rest).drop (k*4+4)).toArray) g (l.eraseIdx R) (zS++(GR.flat aM (mh l R k)++rest).drop (k*4+4))):=by
    have h:=setRow_heap wr g _ ((GR.flat aM (mh l R k)++rest).take (k*4)++zS++(GR.flat aM (mh l R k)++rest).drop (k*4+4)).toArray 145 _ HSk
    have ht:(GR.flat aM (mh l R k)++rest).take (k*4)=GR.flat aM (l.eraseIdx R):=by
     rw [hend,GR.flat_append,aFx];exact List.take_left' (by rw [nO,hel])
    rw [ht] at h;show SB _ g (l.eraseIdx R) _
    unfold SB;rw [<-aFx,ht];exact h
   have HRL:Hid (k*4+(zS++(GR.flat aM (mh l R k)++rest).drop (k*4+4)).length=cap*4):=by
    show k*4+(zS++(GR.flat aM (mh l R k)++rest).drop (k*4+4)).length=cap*4
    rw [aEW,aFA,hXl];show k*4+(4+_)=_
    omega
   have HGF:Hid (w.grownBy (wr.setRow g ((GR.flat aM (mh l R k)++rest).take (k*4)++zS++(GR.flat aM (mh l R k)++rest).drop (k*4+4)).toArray) (some g)):=by
    refine HGk.andThen (row':=some g) ⟨rfl,rfl,rfl,Aac,λx hx hne=>setRow_other wr g x _ (λe=>hne Aap)⟩ (λj hj=> .inr hj)
   have hkc:k<=cap:=Aaa
   have hkI:(k:Int)<=(l.length:Int):=Aaa
   have aD2:(k:Int)<=(cap:Int):=Aaa
   have hcm2:cap<=9223372036854775807:=Aca
   have HKE:=Hq hke;generalize (GR.flat aM (mh l R k)++rest).take (k*4)++zS++(GR.flat aM (mh l R k)++rest).drop (k*4+4)=X2 at *;subst hjl;have hnlt:decide ((l.length:Int) < (l.length:Int))=false:=Aac
   clear HC nA Il zJ xY HSk HGk hend hXl hel ayJ hlt hke;go_wp2_with (simp only[akx,hcl])
   go_ret;exact⟨by rw [ah HKE];first|done|rfl,⟨_,HFB,by rw [ah HKE];exact HRL⟩,HGF⟩
def aac (w:World) (B:Nat) (v:Value) (l:List jI) (e:Ending) (w':World):Prop:=∃a c,e= .returned (.slice a l.length c)/\w'.ownsRow B 145 4 (.slice a l.length c) l.length (GR.flat aM l)/\w.grownBy w' v.ownBlock/\∀x,(Value.slice a l.length c).ownBlock=some x->v.ownBlock=some x
theorem LW (a:Option Addr) (cap:Nat) (l:List jI) (B:Nat) (w:World) (hix:Calls Tryz.prog 253 #[.slice a l.length cap,.func (.func 225) #[] #[.pointer (some ⟨B,0,none⟩)]] w (dU w (.int .i64 (-1)))):
 Calls Tryz.prog 224 #[.slice a l.length cap,.func (.func 225) #[] #[.pointer (some ⟨B,0,none⟩)]] w (dU w (.slice a l.length cap)):=by
 have HIX:=Hq hix;clear hix;go_in
 go_wp2_with fail;refine HIX.mono ?_;rintro e w1 ⟨rfl,hb1⟩;have HB:=Hq hb1;clear hb1 HIX;go_wp2_with fail;go_ret;exact⟨rfl,HB⟩
theorem aeV (B0:Nat) (a:Option Addr) (cap:Nat) (l:List jI) (B:Nat) (m:Mg) (w:World) (hl:l.length<=1000) (hp:l.Pairwise (λs t=>s.i < t.i)) (hB:jY w B m) (ho:w.ownsRow B0 145 4 (.slice a l.length cap) l.length (GR.flat aM l)):
 Calls Tryz.prog 224 #[.slice a l.length cap,.func (.func 225) #[] #[.pointer (some ⟨B,0,none⟩)]] w (aac w B0 (.slice a l.length cap) (l.filter (λs=> !iW m s))):=by
 have hat:SentAt w a l:=by
  obtain⟨a',cp,he,ha⟩:=GR.own_at (enc:=aM) (sz:=4) (l:=l) aT ho;cases he
  exact ha
 have hix:=aff a cap l B m w hl hat hB;by_cases h:qM l m < l.length
 .rw [aFc h] at hix;rw [aeI hp h];have hy:iW m l[qM l m]=true:=aGR (w:=h);have hid:l[qM l m].i=m.I:=(aFa hy).1
  have hno:∀j (hj:j < l.length),qM l m < j->iW m l[j]=false:=λj hj hlt=>by
   cases hq:iW m l[j] with
   |false=>rfl
   |true=>
    exfalso
    have h1:l[j].i=m.I:=(aFa hq).1;have:=aFV.1 hp _ j h hj hlt;omega
  open auy in exact aaO
 .rw [aE2 h] at hix;rw [abm h];refine(LW a cap l B w hix).mono ?_;rintro e w' ⟨rfl,hb⟩;exact⟨a,cap,rfl,GR.own_below ho hb,gT hb _,λx hx=>hx⟩
theorem WK.setOut {w0 w:World} {wb:Nat} {n:Nd} {A:bq} {G:aN} {c:Nat->Nat} {v:Value} {L:List Mg} {a:Option Addr} {cp:Nat} (h:WK w0 w wb n A G c v L) (hg:w.grownBy w' (Value.slice A.o n.out.length A.co).ownBlock) (ho:w'.ownsRow w0.heap.size 145 4 (.slice a l.length cp) l.length (GR.flat aM l)) (hx:∀x,(Value.slice a l.length cp).ownBlock=some x->(Value.slice A.o n.out.length A.co).ownBlock=some x):
 w'.heap[wb]?=some (.cells (Xr n A v) 215 (0,0))/\WK w0 (w'.setCell ⟨wb,5,none⟩ (.slice a l.length cp)) wb (setOut n l) ⟨A.k,A.p,a,A.s,A.r,A.ck,A.cp,cp,A.cs,A.cr⟩ G c v L:=by
 have hN:=h.no;have k3:KC c 3 w w':=KC.grown hg (λx hx=>hN.co x hx);have hb1:=k3.obj h.blk (by rw [h.cw];omega);have k8:KC c 8 w' (w'.setCell ⟨wb,5,none⟩ (.slice a l.length cp)):=KC.set h.cw;have hbel:=k3.below h.keep hN.lo Aaa h.keep.size;have hco:∀x,(Value.slice a l.length cp).ownBlock=some x->c x=3:=λx hx'=>hN.co x (hx x hx')
 refine⟨hb1,k8.below hbel hN.lo Aaa (aEU h.keep.size k3.size),aP hb1 5 (.slice a l.length cp),⟨k8.w (k3.w hN.k hN.ck Aaa) hN.ck Aaa,k8.w (k3.w hN.p hN.cp Aaa) hN.cp Aaa,k8.own ho hco Aaa,k8.seen (k3.seen hN.s hN.c4 hN.ci Aaa Aaa) hN.c4 hN.ci Aaa Aaa,k8.own (k3.own hN.r hN.cr Aaa) hN.cr Aaa,hN.lo,hN.ck,hN.cp,hco,hN.c4,hN.ci,hN.cr,hN.ni⟩,k8.own (k3.own h.m h.cm Aaa) h.cm Aaa,h.cm,h.cw⟩
theorem Vi (o:gP) (hz:eG n 1048576) (hb:hasB n.kids o.m.F=false) (hK:o.m.K=0) (h:WK w0 w wb n A G c v L):Calls Tryz.prog 205 #[.pointer (some ⟨wb,0,none⟩),jX o] w λe w'=>e= .returned (.int .i64 (fU n o.m).2.2)/\∃A' G' c' v',WK w0 w' wb (fU n o.m).1 A' G' c' v' (L++(fU n o.m).2.1):=by
 have HKD:=Hq (λw1 (ha:cK w1 A n)=>Cr n A o.m.F w1 (aEU hz.k Aaa) ha.k);rw [hb] at HKD
 have HR:Hid (fU n o.m=(n,[],1)):=by
  show fU n o.m=_
  unfold fU;rw [aE2 Aaa,aE2 Aaa,aE2 (by rw [hb];simp)]
 rw [ah HR];clear hz hb HR;open aA2 in exact awG
theorem RZ (o:gP) (E:Nat->Addr) (hz:eG n 1048576) (hok:dV n=true) (hm:bY o.m=true) (hL:L.length<=2097100) (hb:hasB n.kids o.m.F=true) (hK:o.m.K=0) (h:WK w0 w wb n A G c v L) (he:iy w0 E):Calls Tryz.prog 205 #[.pointer (some ⟨wb,0,none⟩),jX o] w λe w'=>e= .returned (.int .i64 (fU n o.m).2.2)/\∃A' G' c' v',WK w0 w' wb (fU n o.m).1 A' G' c' v' (L++(fU n o.m).2.1):=by
 have hw:=Kq hm hK;have HKD:=Hq (λw1 (ha:cK w1 A n)=>Cr n A o.m.F w1 (aEU hz.k Aaa) ha.k);rw [hb] at HKD;have IG:=Hq (λW (hW:WK w0 W wb n A G c v L)=>ajj w0 W wb n A G c v L o.m.F o.m.k o.m.N E hok hw.1 hw.2.1 hw.2.2 hL hW he)
 have HR:Hid (fU n o.m=((fu n o.m.F o.m.k o.m.N).1,(fu n o.m.F o.m.k o.m.N).2.1,0)):=by
  show fU n o.m=_
  unfold fU;rw [aE2 Aaa,aE2 Aaa,aFc hb]
 rw [ah HR];clear hz hok hm hL he HR hw hb;generalize fu n o.m.F o.m.k o.m.N=TT at *;open aA1 in exact awG
theorem Dc (o:gP) (E:Nat->Addr) (hz:eG n 1048576) (hok:dV n=true) (hm:bY o.m=true) (hF:dY n o.m.F=true) (hks:o.m.k.size<=1048576) (hL:L.length<=2097100) (hb:(takeN n o.m).2=false) (hK:o.m.K=1) (h:WK w0 w wb n A G c v L) (he:iy w0 E):Calls Tryz.prog 205 #[.pointer (some ⟨wb,0,none⟩),jX o] w λe w'=>e= .returned (.int .i64 (fU n o.m).2.2)/\∃A' G' c' v',WK w0 w' wb (fU n o.m).1 A' G' c' v' (L++(fU n o.m).2.1):=by
 have hw:=Gf hm hK;have OM:=Hq (λW (hW:WK w0 W wb n A G c v L)=>adT w0 W wb n A G c v L o.m E hz hok hF hks hw.2.2.2.1 Aaa hw.2.1 hW he);rw [hb] at OM
 have HR:Hid (fU n o.m=((takeN n o.m).1,[],1)):=by
  show fU n o.m=_
  unfold fU;rw [aFc hK,hb];rfl
 open auM in exact agX
theorem Er (o:gP) (E:Nat->Addr) (hz:eG n 1048576) (hok:dV n=true) (hm:bY o.m=true) (hF:dY n o.m.F=true) (hks:o.m.k.size<=1048576) (hL:L.length<=2097100) (hb:(takeN n o.m).2=true) (hK:o.m.K=1) (h:WK w0 w wb n A G c v L) (he:iy w0 E):Calls Tryz.prog 205 #[.pointer (some ⟨wb,0,none⟩),jX o] w λe w'=>e= .returned (.int .i64 (fU n o.m).2.2)/\∃A' G' c' v',WK w0 w' wb (fU n o.m).1 A' G' c' v' (L++(fU n o.m).2.1):=by
 have hw:=Gf hm hK;have OM:=Hq (λW (hW:WK w0 W wb n A G c v L)=>adT w0 W wb n A G c v L o.m E hz hok hF hks hw.2.2.2.1 Aaa hw.2.1 hW he);rw [hb] at OM
 have HR:Hid (fU n o.m=((takeN n o.m).1,[Ya n o.m],0)):=by
  show fU n o.m=_
  unfold fU;rw [aFc hK,hb];rfl
 open auL in exact agX
theorem Vh (o:gP) (hok:dV n=true) (hK:o.m.K=2) (h:WK w0 w wb n A G c v L):Calls Tryz.prog 205 #[.pointer (some ⟨wb,0,none⟩),jX o] w λe w'=>e= .returned (.int .i64 (fU n o.m).2.2)/\∃A' G' c' v',WK w0 w' wb (fU n o.m).1 A' G' c' v' (L++(fU n o.m).2.1):=by
 have ho:=tK (bJ hok).2.2.2.2.1;have HDL:=Hq (λW B (hB:jY W B o.m) hO=>aeV w0.heap.size A.o A.co n.out B o.m W Aaa ho.1 hB hO);unfold aac at HDL
 have HR:Hid (fU n o.m=(setOut n (n.out.filter (λs=> !iW o.m s)),[],0)):=by
  show fU n o.m=_
  unfold fU;rw [aE2 Aaa,aFc hK]
 rw [ah HR];clear hok ho HR;open arB in exact aj2
theorem alD (o:gP) (E:Nat->Addr) (hz:eG n 1048576) (hok:dV n=true) (hm:bY o.m=true) (hF:dY n o.m.F=true) (hks:o.m.k.size<=1048576) (hL:L.length<=2097100) (h:WK w0 w wb n A G c v L) (he:iy w0 E):Calls Tryz.prog 205 #[.pointer (some ⟨wb,0,none⟩),jX o] w λe w'=>e= .returned (.int .i64 (fU n o.m).2.2)/\∃A' G' c' v',WK w0 w' wb (fU n o.m).1 A' G' c' v' (L++(fU n o.m).2.1):=by
 rcases Kn hm with hK|hK|hK
 .cases hb:hasB n.kids o.m.F with
  |false=>exact Vi w0 w wb n A G c v L o hz hb hK h
  |true=>exact RZ w0 w wb n A G c v L o E hz hok hm hL hb hK h he
 .cases hb:(takeN n o.m).2 with
  |false=>exact Dc w0 w wb n A G c v L o E hz hok hm hF hks hL hb hK h he
  |true=>exact Er w0 w wb n A G c v L o E hz hok hm hF hks hL hb hK h he
 .exact Vh w0 w wb n A G c v L o hok hK h
end Go.Proofs.YtbolgdleijjgfaaGreatDoor
