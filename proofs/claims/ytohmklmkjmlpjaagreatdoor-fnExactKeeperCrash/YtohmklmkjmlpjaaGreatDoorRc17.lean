/- Parts. -/
import Derived.Test.YtohmklmkjmlpjaaGreatDoorRc14
namespace Go.Proofs.YtohmklmkjmlpjaaGreatDoor
open Go.Proofs.Tryz
set_option maxHeartbeats 8000000
set_option maxRecDepth 100000
open Go.RowKit
open Mth
variable {w w0 w' W w1 w2 wr:World} {s:ByteArray} {g a fb o:Nat} {v:Value} {cs:Array Value} {L:List gW} {i:Int} {t:TypeId}
structure OS (w0 W:World) (g o:Nat) (s:ByteArray) (i:Int) (cs:Array Value):Prop where
 rd:jT W g s i
 res:W.heap[w0.heap.size]?=some (.cells (cu 0 0 ⟨#[]⟩ 0 0 0 0 0 0 ⟨#[]⟩ 0) 100 (0,0))
 op:W.heap[o]?=some (.cells cs 100 (0,0))
 keep:dW g w0 W
 lo:w0.heap.size < o
theorem OS.step {j:Int} (h:OS w0 W g o s i cs) (hr:jT w' g s j) (hk:dW g W w') (hg:g < w0.heap.size):OS w0 w' g o s j cs:=
 ⟨hr,hk.obj h.res Aaa,hk.obj h.op (by have:=h.lo;omega),h.keep.trans hk,h.lo⟩
theorem OS.below (h:OS w0 W g o s i cs) (hb:aI W w') (hg:g < w0.heap.size):OS w0 w' g o s i cs:=
 h.step (aK h.rd hb) (dW.of_below hb) hg
theorem dW.setNew {h i:Nat} (k:dW g w0 w) (hh:w0.heap.size<=h):dW g w0 (w.setCell ⟨h,i,none⟩ v):=
 ⟨k.os,k.tape,k.output,by have:=k.size;simpa [World.setCell] using this,λx hx hg=>by
  have hne:x≠h:=Aaa
  rw [aGx _ _ _ _ hne]
  exact k.block x hx hg⟩
theorem OS.set (h:OS w0 W g o s i cs) (hg:g < w0.heap.size) (k:Nat) (v:Value):OS w0 (W.setCell ⟨o,k,none⟩ v) g o s i (cs.setIfInBounds k v):=by
 have hlo:=h.lo;exact⟨one_other h.rd Aaa,one_other h.res Aaa,blk_set h.op k v,h.keep.setNew Aaa,hlo⟩
theorem OS.tail {a0 a1 a2 a3 a4 a5 a6 a7 a8 a9 Ou b4 b5 b6 b7 b8 b9 b10:Value} (h:OS w0 W g o s i #[a0,a1,a2,a3,a4,a5,a6,a7,a8,a9,Ou]) (hg:g < w0.heap.size):OS w0 (((((((W.setCell ⟨o,4,none⟩ b4).setCell ⟨o,5,none⟩ b5).setCell ⟨o,6,none⟩ b6).setCell ⟨o,7,none⟩ b7).setCell ⟨o,8,none⟩ b8).setCell ⟨o,9,none⟩ b9).setCell ⟨o,10,none⟩ b10) g o s i #[a0,a1,a2,a3,b4,b5,b6,b7,b8,b9,b10]:=by
 have h4:OS w0 (W.setCell ⟨o,4,none⟩ b4) g o s i #[a0,a1,a2,a3,b4,a5,a6,a7,a8,a9,Ou]:=h.set hg 4 b4;have h5:OS w0 ((W.setCell ⟨o,4,none⟩ b4).setCell ⟨o,5,none⟩ b5) g o s i #[a0,a1,a2,a3,b4,b5,a6,a7,a8,a9,Ou]:=h4.set hg 5 b5;have h6:OS w0 (((W.setCell ⟨o,4,none⟩ b4).setCell ⟨o,5,none⟩ b5).setCell ⟨o,6,none⟩ b6) g o s i #[a0,a1,a2,a3,b4,b5,b6,a7,a8,a9,Ou]:=h5.set hg 6 b6;have h7:OS w0 ((((W.setCell ⟨o,4,none⟩ b4).setCell ⟨o,5,none⟩ b5).setCell ⟨o,6,none⟩ b6).setCell ⟨o,7,none⟩ b7) g o s i #[a0,a1,a2,a3,b4,b5,b6,b7,a8,a9,Ou]:=h6.set hg 7 b7;have h8:OS w0 (((((W.setCell ⟨o,4,none⟩ b4).setCell ⟨o,5,none⟩ b5).setCell ⟨o,6,none⟩ b6).setCell ⟨o,7,none⟩ b7).setCell ⟨o,8,none⟩ b8) g o s i #[a0,a1,a2,a3,b4,b5,b6,b7,b8,a9,Ou]:=h7.set hg 8 b8;have h9:OS w0 ((((((W.setCell ⟨o,4,none⟩ b4).setCell ⟨o,5,none⟩ b5).setCell ⟨o,6,none⟩ b6).setCell ⟨o,7,none⟩ b7).setCell ⟨o,8,none⟩ b8).setCell ⟨o,9,none⟩ b9) g o s i #[a0,a1,a2,a3,b4,b5,b6,b7,b8,b9,Ou]:=h8.set hg 9 b9;have h10:OS w0 (((((((W.setCell ⟨o,4,none⟩ b4).setCell ⟨o,5,none⟩ b5).setCell ⟨o,6,none⟩ b6).setCell ⟨o,7,none⟩ b7).setCell ⟨o,8,none⟩ b8).setCell ⟨o,9,none⟩ b9).setCell ⟨o,10,none⟩ b10) g o s i #[a0,a1,a2,a3,b4,b5,b6,b7,b8,b9,b10]:=h9.set hg 10 b10;exact h10
theorem Handle.keep1 (h:Handle w) (hk:dW g w w') (hg:g < w.heap.size) (hge:g≠0):Handle w':=PY h hk hg hge
theorem aEN (g:Nat) (s:ByteArray) (w:World) (hs:s.size<=maxLen) (hg:g < w.heap.size) (hge:g≠0) (h:jT w g s 0) (hH:Handle w):Calls prog 200 #[.pointer (some ⟨g,0,none⟩)] w λe w'=>(lH s=true/\e= .returned (jY (opC s))\/lH s=false/\∃p,e=Zb p)/\dW g w w':=by
 by_cases h0:s.size=0
 .have HK:=Hq (λw1 h=>Ze g s w1 h h0);have H:=Hq (aK h (ay w (.cells (cu 0 0 ⟨#[]⟩ 0 0 0 0 0 0 ⟨#[]⟩ 0) 100)));have hno:lH s=false:=by unfold lH;rw [aGi Aaa];rfl
  have mZ:=Hq hno;clear h hH hno;generalize lH s=OK at *;go_in
  go_wp2_with fail;refine(HK _ H).mono ?_;rintro e w1 ⟨rfl,hb1⟩;have HB:=Hq (dW.of_below (g:=g) ((ay w _).trans (hb1.mono Aac)));clear hb1;go_wp2_with fail;exact⟨rfl,.inr ⟨mZ,_,rfl⟩,HB⟩
 have h1:0 < s.size:=Aaa
 have HK:=Hq (λw1 h=>Va g s w1 h h1);have aBM:=Hq (λw1 h hh hE=>KO g s 1 w1 hs h hh hE);have aBL:=Hq (λw1 h hh hE=>QY g s 1 w1 hs h hh hE);have aB0:=Hq (λw1 h hh hE=>vB g s (kR s 1) w1 hs h hh hE);have aBZ:=Hq (λw1 h hh hE=>KP g s (kR s 1) w1 hs h hh hE);have aBO:Hid (∀w1:World,jT w1 g s (jc s (kR s 1))->Handle w1->0<=Kz s->Calls prog 226 #[.pointer (some ⟨g,0,none⟩)] w1 λe w'=>e= .returned (.int .i64 (vw s (jc s (kR s 1))))/\jT w' g s (Kz s)/\dW g w1 w'):=λw1 h hh hE=>KO g s (jc s (kR s 1)) w1 hs h hh hE
 have aBN:Hid (∀w1:World,jT w1 g s (jc s (kR s 1))->Handle w1->Kz s < 0->Calls prog 226 #[.pointer (some ⟨g,0,none⟩)] w1 λe w'=>e=Zb (jc s (kR s 1))/\aI w1 w'):=λw1 h hh hE=>QY g s (jc s (kR s 1)) w1 hs h hh hE
 have HM:Hid (∀w1:World,g < w1.heap.size->jT w1 g s (Kz s)->Handle w1->Calls prog 228 #[.pointer (some ⟨g,0,none⟩)] w1 λe w'=>((0<=Nf s/\rG s=true)/\e= .returned (oz (nD (Bz s)))/\jT w' g s (Nf s)\/¬(0<=Nf s/\rG s=true)/\∃p,e=Zb p)/\dW g w1 w'):=by
  intro w1 hg1 h2 h3;by_cases hE:0<=Nf s
  .by_cases hb:(Bz s).size=0
   .refine(Zh g s (Kz s) w1 hs hg1 h2 h3 hE hb).mono ?_;rintro e w' ⟨he,hr,hk⟩;exact⟨.inl ⟨⟨hE,by unfold rG;rw [aGk hb];rfl⟩,he,hr⟩,hk⟩
   .cases ho:kN (Bz s)
    .refine(Zf g s (Kz s) w1 hs hg1 hge h2 h3 hE (by have:(Bz s).size≠0:=hb;unfold Bz at this;omega) ho).mono ?_;rintro e w' ⟨he,hk⟩;exact⟨.inr ⟨(λhx=>by have h9:=hx.2;unfold rG at h9;rw [aGi hb,ho] at h9;cases h9),he⟩,hk⟩
    .refine(adG g s (Kz s) w1 hs hg1 hge h2 h3 hE (by have:(Bz s).size≠0:=hb;unfold Bz at this;omega) ho).mono ?_;rintro e w' ⟨he,hr,hk⟩;exact⟨.inl ⟨⟨hE,by unfold rG;rw [ho];simp⟩,he,hr⟩,hk⟩
  .refine(Zg g s (Kz s) w1 hs h2 h3 (by have:¬0<=Nf s:=hE;unfold Nf at this;omega)).mono ?_;rintro e w' ⟨he,hk⟩;exact⟨.inr ⟨λhx=>hE hx.1,he⟩,hk⟩
 have oN:=Hq (λw1=>YE (opC s) w1);have HF:=Hq (λw1 h=>Nq g s (Nf s) w1 h)
 have HG:Hid (lH s=true↔Nf s=s.size/\rG s=true/\cK (opC s)=true):=by
  show lH s=true↔_
  unfold lH;rw [aGk h1];simp[and_assoc]
 have HX:Hid (0<=Nf s->0<=Kz s/\0<=jc s (kR s 1)/\0<=kR s 1):=λhE=>by
  have g3:0<=Kz s:=(iE (s:=s) (i:=Kz s) hE).1
  have g2:=(lU (s:=s) (i:=jc s (kR s 1)) g3).1
  exact⟨g3,g2,(iE (s:=s) (i:=kR s 1) g2).1⟩
 have hC:opC s=⟨s[0].toNat,vw s 1,j6 s (kR s 1),vw s (jc s (kR s 1)),nD (Bz s)⟩:=by unfold opC;rw [Mq h1]
 rw [hC] at oN HG ⊢
 have mZ:Hid (¬(0<=Nf s/\rG s=true)->lH s=false):=λhx=>by
  rw [aH0]
  intro hy
  have:=HG.1 hy
  exact hx ⟨Aaa,this.2.1⟩
 have HH:=Hq hH;have H:=Hq (aK h (ay w (.cells (cu 0 0 ⟨#[]⟩ 0 0 0 0 0 0 ⟨#[]⟩ 0) 100)));clear h hH hC h0;generalize lH s=OK at *;generalize nD (Bz s)=m at *;generalize rG s=BO at *;open auI in exact ahf
theorem aEL (s:ByteArray) (w:World) (hs:s.size<=maxLen) (hH:Handle w):Calls prog 166 #[.string s] w λe w'=>(lH s=true/\e= .returned (jY (opC s))\/lH s=false/\∃p,e=Zb p)/\aI w w':=by
 obtain⟨hP,hR,hB⟩:=gQ w (.cells (cu 0 0 ⟨#[]⟩ 0 0 0 0 0 0 ⟨#[]⟩ 0) 100) (.cells #[.string s,.int .i64 0] 228)
 have hlt:0 < w.heap.size:=by
  exact aiP
 have HO:=Hq (aEN (w.heap.size+1) s _ hs Aac Aaa hR (hH.below hB));have HP:=Hq hP;have HB:=Hq hB;clear hP hR hB hs hH hlt;generalize opC s=oc at *;obtain⟨K,no,k,n,⟨mK,mF,mT,mI,mL,mk,mN⟩⟩:=oc;go_in
 go_wp2_with fail;refine HO.mono ?_;rintro e w1 ⟨hcase,hk⟩;have HR1:=Hq (hk.obj HP Aaa);have HB1:=Hq (hk.below HB Aaa HB.size);clear hk HO HP HB;rcases hcase with⟨hyes,rfl⟩|⟨hno,p,rfl⟩
 .obtain⟨⟨d0,d1,d2,d3,d4,d5,d6,d7,d8,d9,d10⟩,f0,f1,f2,f3,f4,f5,f6,f7,f8,f9,f10⟩:=aL HR1;go_wp2_with fail;refine iL (λW' hW'=>?_);obtain⟨⟨r0,r1,r2,r3,r4,r5,r6,r7,r8,r9,r10⟩,_⟩:=aL (show W'.heap[w.heap.size]?=some (.cells (cu K no k n mK mF mT mI mL mk mN) 100 (0,0)) by rw [hW'];exact lQ HR1);have hbb:aI w W':=by rw [hW'];exact iR HB1 (aGh _)
  exact aGn (v:= .agg (cu K no k n mK mF mT mI mL mk mN)) (by simp[results,results166,go_sem,r0,r1,r2,r3,r4,r5,r6,r7,r8,r9,r10]) rfl ⟨.inl ⟨hyes,rfl⟩,hbb⟩
 .go_wp2_with fail;exact⟨rfl,.inr ⟨hno,_,rfl⟩,HB1⟩
abbrev ou (o:gW):List Value:=[.int .i64 o.K,.int .i64 o.no,.string o.k,.int .i64 o.n,.int .i64 o.m.K,.int .i64 o.m.F,.int .i64 o.m.T,.int .i64 o.m.I,.int .i64 o.m.L,.string o.m.k,.int .i64 o.m.N]
theorem jF (o:gW):(ou o).length=11:=rfl
theorem Py:∀(o:gW),∀u∈ou o,u.oneCell'=true:=by
 intro o u hu;simp only[ou,aGF,aHx,or_false] at hu;rcases hu with rfl|rfl|rfl|rfl|rfl|rfl|rfl|rfl|rfl|rfl|rfl<;>rfl
theorem yO (l:List gW) (o:gW):GR.flat ou (l++[o])=GR.flat ou l++ou o:=by rw [GR.flat_append,GR.flat_one]
abbrev EW (w:World) (a:Option Addr) (l:List gW):Prop:=GR.At ou 11 w a l
theorem EW.eleven {a:Option Addr} {l:List gW} (h:EW w a l) (i:Nat) (hi:i < l.length):∃g off,a=some ⟨g,off,none⟩/\g < w.heap.size/\w.cell? ⟨g,off+i*11,none⟩=some (.int .i64 l[i].K)/\w.cell? ⟨g,off+i*11+1,none⟩=some (.int .i64 l[i].no)/\w.cell? ⟨g,off+i*11+2,none⟩=some (.string l[i].k)/\w.cell? ⟨g,off+i*11+3,none⟩=some (.int .i64 l[i].n)/\w.cell? ⟨g,off+i*11+4,none⟩=some (.int .i64 l[i].m.K)/\w.cell? ⟨g,off+i*11+5,none⟩=some (.int .i64 l[i].m.F)/\w.cell? ⟨g,off+i*11+6,none⟩=some (.int .i64 l[i].m.T)/\w.cell? ⟨g,off+i*11+7,none⟩=some (.int .i64 l[i].m.I)/\w.cell? ⟨g,off+i*11+8,none⟩=some (.int .i64 l[i].m.L)/\w.cell? ⟨g,off+i*11+9,none⟩=some (.string l[i].m.k)/\w.cell? ⟨g,off+i*11+10,none⟩=some (.int .i64 l[i].m.N):=by
 obtain⟨g,off,e,hg,hc⟩:=h i hi;refine⟨g,off,e,hg,?_,?_,?_,?_,?_,?_,?_,?_,?_,?_,?_⟩
 .simpa using hc 0 Aaa
 .simpa [aGI] using hc 1 Aaa
 .simpa [aGI] using hc 2 Aaa
 .simpa [aGI] using hc 3 Aaa
 .simpa [aGI] using hc 4 Aaa
 .simpa [aGI] using hc 5 Aaa
 .simpa [aGI] using hc 6 Aaa
 .simpa [aGI] using hc 7 Aaa
 .simpa [aGI] using hc 8 Aaa
 .simpa [aGI] using hc 9 Aaa
 .simpa [aGI] using hc 10 Aaa
theorem acT:(prog.info? 100).map (λi=>(i.zero,i.size,i.bytes))=some (some (.agg (cu 0 0 ByteArray.empty 0 0 0 0 0 0 ByteArray.empty 0)),11,104):=Aab
theorem aBo {c:Nat} (h:w.heap[c]?=some (.cells cs t (0,0))) (i:Nat) (v:Value):(w.setCell ⟨c,i,none⟩ v).heap[c]?=some (.cells (cs.setIfInBounds i v) t (0,0)):=by
 exact Ww
theorem ajV (h:w.heap[g]?=some (.cells cs t (0,0))) (i:Nat):w.frozen? ⟨g,i,none⟩=false:=by
 unfold World.frozen?;rw [h];simp
theorem ZN {v0 v1:Value} (h:w.heap[g]?=some (.cells #[v0,v1] t (0,0))):w.cell? ⟨g,0,none⟩=some v0/\w.cell? ⟨g,1,none⟩=some v1:=by
 have hc:∀i,w.cell? ⟨g,i,none⟩=#[v0,v1][i]?:=λi=>aGu w g i _ t (0,0) h
 exact⟨hc 0,hc 1⟩
structure FS (w0 w:World) (fb g:Nat) (s:ByteArray) (v:Value) (L:List gW) (a:Nat):Prop where
 keep:dW fb w0 w
 blk:w.heap[fb]?=some (.cells #[v,.int .i64 a] 188 (0,0))
 own:w.ownsRow (g+1) 100 11 v L.length (GR.flat ou L)
 by_:BytesAt w g s
 lo:fb < w0.heap.size
 gl:w0.heap.size<=g/\g < w.heap.size
theorem FS.step (h:FS w0 w fb g s v L a) (hb:aI w w'):FS w0 w' fb g s v L a:=
 ⟨h.keep.trans (dW.of_below hb),aK h.blk hb,own_below h.own hb,h.by_.below h.gl.2 hb,h.lo,h.gl.1,aGq h.gl.2 hb.size⟩
theorem FS.app {w6:World} {v':Value} (h:FS w0 w fb g s v L a) (o:gW) (hown:w6.ownsRow (g+1) 100 11 v' (L.length+1) (GR.flat ou L++ou o)) (hg:w.grownBy w6 v.ownBlock):
 w6.heap[fb]?=some (.cells #[v,.int .i64 a] 188 (0,0))/\∀z:Nat,FS w0 ((w6.setCell ⟨fb,0,none⟩ v').setCell ⟨fb,1,none⟩ (.int .i64 z)) fb g s v' (L++[o]) z:=by
 have hlt:∀x,v.ownBlock=some x->g+1<=x:=λx hx=>(h.own.lt x hx).1
 have hgl:=h.gl;have hlo:=h.lo
 have hb:w6.heap[fb]?=some (.cells #[v,.int .i64 a] 188 (0,0)):=by
  rw [hg.block fb (dA h.blk) (λe=>by have:=hlt fb e.symm;omega)];exact h.blk
 have hbg:w6.heap[g]?=w.heap[g]?:=hg.block g hgl.2 (λe=>by have:=hlt g e.symm;omega)
 have h6:dW fb w0 w6:=⟨hg.os.trans h.keep.os,hg.tape.trans h.keep.tape,hg.output.trans h.keep.output,aGm h.keep.size hg.size,λk hk hne=>by
  rw [hg.block k (aGq hk h.keep.size) (λe=>by have:=hlt k e.symm;omega)]
  exact h.keep.block k hk hne⟩
 have hby:BytesAt w6 g s:=λi hi=>(aG0 (w:=w) hbg).trans (h.by_ i hi)
 have gr:∀(w1:World) (i:Nat) (u:Value),w1.grownBy (w1.setCell ⟨fb,i,none⟩ u) (some fb):=λw1 i u=>⟨rfl,rfl,rfl,Aaq,λk _ hne=>aGx _ _ _ _ (λe=>hne Aap)⟩
 have hne:v'.ownBlock=none\/v'.ownBlock≠some fb:=by
  right
  intro e;have:=(hown.lt fb e).1;omega
 have st:∀(w1:World) (i:Nat) (u:Value),BytesAt w1 g s->BytesAt (w1.setCell ⟨fb,i,none⟩ u) g s:=λw1 i u hw j hj=>(aHy _ _ _ _ (by simp<;>omega)).trans (hw j hj)
 refine⟨hb,λz=>⟨(h6.trans (dW.set _)).trans (dW.set _),aBo (aBo hb 0 v') 1 (.int .i64 z),?_,st _ _ _ (st _ _ _ hby),hlo,hgl.1,?_⟩⟩
 .rw [aGp,yO];exact(hown.kept (gr _ 0 v') hne).kept (gr _ 1 (.int .i64 z)) hne
 .have:=hg.size;simp[World.setCell];omega
def endOf (w:World) (fb:Nat):Nat:=match w.cell? ⟨fb,1,none⟩ with|some (.int _ z)=>z.toNat|_=>0
theorem FS.endOf (h:FS w0 w fb g s v L a):endOf w fb=a:=by
 unfold Go.Proofs.YtohmklmkjmlpjaaGreatDoor.endOf;rw [(ZN h.blk).2];simp
def Found (w w':World) (fb:Nat) (s:ByteArray):Prop:=dW fb w w'/\∃v,w'.heap[fb]?=some (.cells #[v,.int .i64 (dR s).2] 188 (0,0))/\w'.ownsRow (w.heap.size+1) 100 11 v (dR s).1.length (GR.flat ou (dR s).1)
theorem FS.found (h:FS w0 w fb w0.heap.size s v L a) (hS:zL s a L) (hs:zn s a=false) (hb:aI w w'):Found w0 w' fb s:=by
 have h2:=h.step hb;refine⟨h2.keep,v,?_,?_⟩
 .rw [CK hS hs];exact h2.blk
 .rw [CK hS hs];exact h2.own
theorem adu (h:¬Ub s a):zn s a=false/\Bv s a= -1:=by
 unfold zn Bv;rw [aGi h,aGr h];exact⟨rfl,rfl⟩
theorem readAll (fb:Nat) (s:ByteArray) (hs:s.size<=60000) (w:World) (hfb:fb < w.heap.size) (hne:fb≠0) (hf:w.heap[fb]?=some (.cells #[.slice none 0 0,.int .i64 0] 188 (0,0))) (hH:Handle w):
 Calls prog 136 #[.pointer (some ⟨fb,0,none⟩),.string s] w λe w'=>(e= .returned (.tuple #[])\/∃p,e=Zb p)/\Found w w' fb s:=by
 obtain⟨i0,hi,hz0,hz1,hz2⟩:=aGV acT;obtain⟨cap,w1,ace,hcap,hby,hlt1,hbel⟩:=TR s w;have HF1:=Hq (show FS w w1 fb w.heap.size s (.slice none 0 0) [] 0 from⟨dW.of_below hbel,aK hf hbel,World.ownsRow_nil _ _ _ _,hby,hfb,aGh _,hlt1⟩);have HH:=Hq hH;have BK:=Hq (Dk s hs);clear hbel hby hf hH hlt1;go_in
 go_wp2_with fail;go_loopw [] (λwr=>∃a v L,FS w wr fb w.heap.size s v L a/\zL s a L) (λwr=>s.size - endOf wr fb)
 case atStart=>exact⟨0,_,[],HF1,BK⟩
 case round=>
  clear HF1 BK ace;obtain⟨a,v,L,hF,hS⟩:=hrel;have hcl:=hF.lo;have hbl:=dA hF.blk;obtain⟨va,vc,hv,_⟩:=GR.own_at (enc:=ou) (sz:=11) (l:=L) jF hF.own;subst hv;obtain⟨c0,c1⟩:=ZN hF.blk;have hea:endOf wr fb=a:=hF.endOf;have HF:=Hq hF;have HEA:=Hq hea;have HS:=Hq hS;have ha:=hS.2.1;have HL:=Hq hS.1;clear hF hS hea;by_cases hlt:a < s.size
  case' neg=>
   have hnl:decide ((a:Int) < (s.size:Int))=false:=Aag
   go_wp2_with fail;exact aIi (v:= .tuple #[]) (by simp[results,results136,go_sem]) rfl ⟨.inl rfl,HF.found HS (RV Aaa) (aGs _ _)⟩
  have hlI:(a:Int) < (s.size:Int):=Aaa
  have HFA:=Hq (afm s hs a ha w.heap.size cap hcap wr HF.by_ HF.gl.2 (HH.keep1 HF.keep hfb hne));by_cases hfa:Ub s a
  case' neg=>
   obtain⟨hst,hE⟩:=adu hfa;have HST:=Hq hst;clear hst;rw [hE] at HFA;clear hE hfa;generalize Ep s a=TX at *;go_wp2_with fail;refine HFA.mono ?_;rintro e w2 ⟨rfl,hb2⟩;obtain⟨d0,d1⟩:=ZN (HF.step hb2).blk;have HB2:=Hq hb2;clear hb2 c0 c1;go_wp2_with fail;exact⟨rfl,.inr ⟨_,rfl⟩,HF.found HS HST HB2⟩
  have HFB:=Hq hfa
  have hE:Bv s a=((Bv s a).toNat:Nat):=by
   have h1:=hfa.2.1;have:Bv s a=a+4+Bf (tl s a):=aGC hfa;omega
  have hE2:(Bv s a).toNat<=100000:=by
   have h1:Bv s a=a+4+Bf (tl s a):=aGC hfa;have h2:=Vd (iZ (tl s a)) 0;have h3:=tQ (tl s a);unfold Bf at h1;omega
  have hTX:(Ep s a).size<=1000:=by
   have h1:Ep s a=Ei (tl s a):=aGC hfa;rw [h1];exact Gn _ _
  have HO:=Hq (λw1 h=>aEL (Ep s a) w1 (aGm hTX Aai) h);have HY:=Hq (show lH (Ep s a)=true->zn s a=true from λh=>by unfold zn;rw [aGk hfa,h];rfl);have HN:=Hq (show lH (Ep s a)=false->zn s a=false from λh=>by unfold zn;rw [h,Bool.and_false]);have iQ:=Hq (show zn s a=true->zL s (Bv s a).toNat (L++[opC (Ep s a)]) from λh=>Gt HS h);have HGT:=Hq (show zn s a=true->a < (Bv s a).toNat/\(Bv s a).toNat<=s.size from λh=>by obtain⟨_,_,_,h4,h5,_⟩:=jE h;omega);clear hTX hfa HFB;rw [hE] at HFA;clear hE;generalize (Bv s a).toNat=z at *;generalize lH (Ep s a)=OK at *;generalize hoc:opC (Ep s a)=oc at *;clear hoc;generalize Ep s a=TX at *;obtain⟨K,no,k,n,⟨mK,mF,mT,mI,mL,mk,mN⟩⟩:=oc;go_wp2_with fail;refine HFA.mono ?_;rintro e w2 ⟨rfl,hb2⟩;have HF2:=Hq (HF.step hb2);clear hb2 c0 c1 HFA;go_upto_region 5 with fail;refine wp_at (λW hW=>?_);obtain rfl:=hW;have aFh:=dA HF2.blk;obtain⟨c0,c1⟩:=ZN HF2.blk;have y0:=aGj c0;clear c0 c1;refine mX Aab ?_;show wV _ _ _ _ 12 (Array.replicate 12 false) _ _
  open ar9 in exact akP
theorem Found.step (h:Found w w1 fb s) (hb:aI w1 w2):Found w w2 fb s:=by
 obtain⟨hk,v,hv,ho⟩:=h;exact⟨hk.trans (dW.of_below hb),v,aK hv hb,own_below ho hb⟩
theorem UZ {B B' size n:Nat} {e:TypeId} {xs:List Value} (h:w.ownsRow B e size v n xs) (hB:B'<=B):w.ownsRow B' e size v n xs:=by
 refine⟨h.1,?_⟩;rcases h.2 with hn|⟨g,cap,cur,rfl,hb,rest⟩
 .exact .inl hn
 .exact .inr ⟨g,cap,cur,rfl,aGm hB hb,rest⟩
theorem QZ (a fb:Nat) (s:ByteArray) (hs:s.size<=60000) (w:World) (hfb:fb < w.heap.size) (hne:fb≠0) (hf:w.heap[fb]?=some (.cells #[.slice none 0 0,.int .i64 0] 188 (0,0))) (hH:Handle w) (ha:w.cell? ⟨a,0,none⟩=some (.string s)):
 Calls prog 135 #[.pointer (some ⟨fb,0,none⟩),.pointer (some ⟨a,0,none⟩)] w λe w'=>(e= .returned (.tuple #[])\/∃p,e=Zb p)/\Found w w' fb s:=by
 have HR:=Hq (readAll fb s hs w hfb hne hf hH);clear hs hf hH;go_in
 go_wp2_with fail;refine HR.mono ?_;rintro e w1 ⟨hcase,hF⟩;have HF:=Hq hF;clear hF;rcases hcase with rfl|⟨p,rfl⟩
 .go_wp2_with fail;exact aIi (v:= .tuple #[]) (by simp[results,results135,go_sem]) rfl ⟨.inl rfl,HF⟩
 .go_wp2_with fail;exact⟨rfl,.inr ⟨_,rfl⟩,HF⟩
theorem Vs (a fb:Nat) (s:ByteArray) (hs:s.size<=60000) (w:World) (hfb:fb < w.heap.size) (hne:fb≠0) (hf:w.heap[fb]?=some (.cells #[.slice none 0 0,.int .i64 0] 188 (0,0))) (hH:Handle w) (ha:w.cell? ⟨a,0,none⟩=some (.string s)):
 Calls prog 134 #[.func (.func 135) #[] #[.pointer (some ⟨fb,0,none⟩),.pointer (some ⟨a,0,none⟩)]] w λe w'=>(∃b,e= .returned (.bool b))/\Found w w' fb s:=by
 have HC:=Hq (QZ a fb s hs w hfb hne hf hH ha);clear hs hH ha hf;have hdf:∀(fn:Fn) (first cap:Array Value) (w:World),(Instr.makeFunc fn first cap).run prog w= .ok (.func fn first cap) w:=λ_ _ _ _=>rfl
 go_enter_defers func134,ntmps134
 go_wp2_with fail;refine HC.mono ?_;rintro e w1 ⟨hcase,hF⟩;have HF:=Hq hF;clear hF HC;rcases hcase with rfl|⟨p,rfl⟩
 .go_wp2_with fail;refine leaves_cons (f:=164) (args:=#[]) Aac (by simp[go_sem]) ?_;refine(TM _).mono ?_;rintro e u' w'' ⟨rfl,rfl,rfl⟩;simp[Leaves,settle,results,results134,go_sem];exact HF
 .go_wp2_with fail;refine leaves_cons (f:=164) (args:=#[]) Aac (by simp[go_sem]) ?_;refine(Yb p [] _).mono ?_;rintro e u' w'' ⟨rfl,rfl,hb⟩;have HF2:=Hq (HF.step hb);clear hb;simp[Leaves,settle,results,results134,go_sem];exact HF2
def lM (w:World) (s:ByteArray) (e:Ending) (w':World):Prop:=∃v,e= .returned (.tuple #[v,.int .i64 (dR s).2])/\w'.ownsRow w.heap.size 100 11 v (dR s).1.length (GR.flat ou (dR s).1)/\aI w w'
theorem lM.step {e:Ending} (h:lM w s e w1) (hb:aI w1 w2):lM w s e w2:=by
 obtain⟨v,he,ho,hB⟩:=h;exact⟨v,he,own_below ho hb,hB.trans (hb.mono hB.size)⟩
theorem acR (s:ByteArray) (_hs:s.size<=maxLen) (w:World) (hH:Handle w):Calls prog 81 #[.string s] w (lM w s):=by
 by_cases hbig:60000 < s.size
 .have hb1:(60000:Int) < (s.size:Int):=Aaa
  have HP:=Hq (show lM w s (.returned (.tuple #[.slice none 0 0,.int .i64 0])) (w.alloc (.cells #[.string s] 9)) from by
   have e:dR s=([],0):=by unfold dR;rw [aGr Aaa]
   refine⟨.slice none 0 0,?_,?_,ay w _⟩
   .rw [e];rfl
   .rw [e];exact World.ownsRow_nil _ _ _ _)
  clear hH;go_in
  go_wp2_with fail;exact aGn (v:= .tuple #[.slice none 0 0,.int .i64 0]) (by simp[results,results81,go_sem]) rfl HP
 .have hlt:0 < w.heap.size:=by
   exact aiP
  have hb1:¬((60000:Int) < (s.size:Int)):=Aaa
  obtain⟨hA,hF,hB⟩:=gQ w (.cells #[.string s] 9) (.cells #[.slice none 0 0,.int .i64 0] 188);have HW:=Hq (Vs w.heap.size (w.heap.size+1) s Aaa _ Aac Aaa hF (hH.below hB) (aGu _ w.heap.size 0 _ 9 (0,0) hA));have HB:=Hq hB;have hsz:((w.alloc (.cells #[.string s] 9)).alloc (.cells #[.slice none 0 0,.int .i64 0] 188)).heap.size=w.heap.size+2:=Aac
  clear hA hF hB hH hlt;have hmf:∀(fn:Fn) (first cap:Array Value) (w:World),(Instr.makeFunc fn first cap).run prog w= .ok (.func fn first cap) w:=λ_ _ _ _=>rfl
  go_in
  go_wp2_with fail;refine HW.mono ?_;rintro e w1 ⟨⟨b,rfl⟩,hk,v,hv,ho⟩;rw [hsz] at ho;have HP:=Hq (show lM w s (.returned (.tuple #[v,.int .i64 (dR s).2])) w1 from⟨v,rfl,UZ ho Aaa,hk.below HB Aaa HB.size⟩);have hwl:=dA hv;obtain⟨c0,c1⟩:=ZN hv;clear hv ho hk HW HB
  obtain⟨va,vc,hvv,_⟩:∃a c,v= .slice a (dR s).1.length c/\True:=by
   obtain⟨v2,he,hown,_⟩:=ah HP;simp only[Ending.returned.injEq,Value.tuple.injEq] at he;obtain⟨a2,c2,h2,_⟩:=GR.own_at (enc:=ou) (sz:=11) jF hown;have:v=v2:=by simpa using he
   exact⟨a2,c2,by rw [this,h2],trivial⟩
  subst hvv;generalize (dR s).2=E at *;generalize (dR s).1.length=N at *;go_wp2_with fail;go_quiet (fail);go_wp2_with fail;exact aGn (v:= .tuple #[.slice va N vc,.int .i64 E]) (by simp[results,results81,go_sem]) rfl (HP.step ⟨rfl,rfl,rfl,aGh _,λ_ _=>rfl⟩)
theorem J8 (ho:wr.ownsRow w.heap.size 100 11 v L.length (GR.flat ou L)) (hb:aI w wr) (hS:zL s a L) (hs:zn s a=false) (hz:aI wr w'):lM w s (.returned (.tuple #[v,.int .i64 a])) w':=by
 have e:=CK hS hs;exact⟨v,Aap,by rw [e];exact own_below ho hz,hb.trans (hz.mono hb.size)⟩
theorem Yk (ho:wr.ownsRow w.heap.size 100 11 v ([]:List gW).length (GR.flat ou [])) (hb:aI w wr) (h:60000 < s.size):lM w s (.returned (.tuple #[v,.int .i64 (0:Nat)])) wr:=by
 have e:dR s=([],0):=by unfold dR;rw [aGr Aaa]
 exact⟨v,Aap,by rw [e];exact ho,hb⟩
theorem Rz (s:ByteArray) (hs:s.size<=maxLen) (w:World):Calls prog 19 #[.string s] w (lM w s):=by
 obtain⟨i0,hi,hz0,hz1,hz2⟩:=aGV acT;have hs2:s.size<=9223372036854775807:=by unfold maxLen at hs;omega
 have HG:=Hq (λi w1=>NK s i hs w1);clear hs;go_in
 go_wp2_with fail;go_loopw [4,5] (λv at_ wr=>∃(a:Nat) (L:List gW),at_= .int .i64 a/\wr.ownsRow w.heap.size 100 11 v L.length (GR.flat ou L)/\aI w wr/\((s.size<=60000/\zL s a L)\/(60000 < s.size/\a=0/\L=[]))) (λ_ at_ _=>s.size - (intOf at_).toNat)
 case atStart=>
  refine⟨0,[],rfl,aGY _ #[] 0 (aGh _) Aae rfl,(aGs _ _).alloc (aGh _) _,?_⟩;by_cases h:s.size<=60000
  .exact .inl ⟨h,Dk s h⟩
  .exact .inr ⟨Aaa,rfl,rfl⟩
 case round=>
  obtain⟨a,L,rfl,hown,hbel,hcase⟩:=hrel;obtain⟨va,vc,rfl,_⟩:=GR.own_at (enc:=ou) (sz:=11) (l:=L) jF hown;have HOWN:=Hq hown;have dS:=Hq hbel;clear hown hbel;rcases hcase with⟨hsm,hS⟩|⟨hbig,rfl,rfl⟩
  case' inr=>
   have hb1:decide ((s.size:Int)<=60000)=false:=Aag
   go_wp2_with fail;exact aGn (v:= .tuple #[.slice va 0 vc,.int .i64 0]) Ada rfl (Yk HOWN dS hbig)
  have hb1:decide ((s.size:Int)<=60000)=true:=Aag
  have ha:=hS.2.1;have HS:=Hq hS;clear hS;by_cases h4:a+4 < s.size
  case' neg=>
   have hb2:decide ((4:Int) < (s.size:Int) - (a:Int))=false:=Aag
   have HST:=Hq (RV h4);go_wp2_with fail;exact aGn (v:= .tuple #[.slice va L.length vc,.int .i64 a]) Ada rfl (J8 HOWN dS HS HST (aGs _ _))
  have hb2:decide ((4:Int) < (s.size:Int) - (a:Int))=true:=Aag
  have h4i:(a:Int)+4 < (s.size:Int):=Aaa
  have hw4:IntKind.i64.wrap ((a:Int)+4)=(a:Int)+4:=IntWalk.i64_in _ ⟨Aaa,Aaa⟩;have hw5:0<=(a:Int)+4/\(a:Int)+4<=(s.size:Int):=Aaa
  have hw6:(a:Int)<=(a:Int)+4:=Aaa
  have hw7:((a:Int)+4).toNat=a+4:=Aaa
  have Hw:=Hq (λw1=>HG ((a:Int)+4) w1);have hTX:=Gn s ((a:Int)+4);have hEl:=Vd s ((a:Int)+4);have alq:(j6 s ((a:Int)+4)).size<=maxLen:=aGm hTX Aai;have Hz:=Hq (λw1=>Zz (j6 s ((a:Int)+4)) alq w1);have HC:=Hq (λw1=>NA (j6 s ((a:Int)+4)) w1 alq);have e:(65536*(sums (j6 s ((a:Int)+4)).data.toList).2+(sums (j6 s ((a:Int)+4)).data.toList).1:Int)=(lq (j6 s ((a:Int)+4)):Int):=by unfold lq;omega
  rw [e] at HC;have HW:=Hq (λw1=>afL (lq (j6 s ((a:Int)+4))) (NY _) w1);have hspec:=GX s a h4;have aap:=Hq (λh:zn s a=true=>(show _/\_ from⟨Gt HS h,jE h⟩));unfold Mh at Hz;have HOC:=Hq (show lH (j6 s ((a:Int)+4))=true->getOp (j6 s ((a:Int)+4))=opC (j6 s ((a:Int)+4)) from λh=>by unfold getOp;rw [aGC h]);clear e hTX alq HG;by_cases hE:jc s ((a:Int)+4) < 0
  case' pos=>
   have HST:=Hq (show zn s a=false by rw [hspec,aGi Aaa];rfl);have hd:decide (jc s ((a:Int)+4) < 0)=true:=aGk hE;clear hspec aap HOC;generalize jc s ((a:Int)+4)=E at *;generalize mW (lq (j6 s ((a:Int)+4)))=bW at *;generalize lq (j6 s ((a:Int)+4))=nn at *;generalize lH (j6 s ((a:Int)+4))=OK at *;exact ayX
  have hd:decide (jc s ((a:Int)+4) < 0)=false:=aGi hE;have hd2:decide (0<=jc s ((a:Int)+4))=true:=aGk Aaa;rw [hd2,Bool.true_and] at hspec;clear hd2;cases hok:lH (j6 s ((a:Int)+4))
  case' false=>
   have HST:=Hq (show zn s a=false by rw [hspec,hok];rfl);rw [hok] at Hz;clear hspec aap HOC hok;exact aiV
  rw [hok,Bool.true_and] at hspec;rw [hok] at Hz;have hoc:=ah HOC hok;clear HOC hok;by_cases hq:s.extract a (a+4)=mW (lq (j6 s ((a:Int)+4)))
  case' neg=>
   have HST:=Hq (show zn s a=false by rw [hspec,aGi hq])
   have hqq:((s.extract a (a+4)).toList == (mW (lq (j6 s ((a:Int)+4)))).toList)=false:=by
    rw [aHS];intro h;rw [aG8,aG8] at h;exact hq (aHE (Array.ext' h))
   clear hspec aap hq hoc;exact aiV
  have hqq:((s.extract a (a+4)).toList == (mW (lq (j6 s ((a:Int)+4)))).toList)=true:=by rw [hq];simp
  have hst:zn s a=true:=by rw [hspec,aGk hq]
  obtain⟨hN1,_,hf1,hf2,hf3,hf4,_⟩:=ah aap hst;have hE5:jc s ((a:Int)+4)=((jc s ((a:Int)+4)).toNat:Nat):=Aaa
  have hE6:a < (jc s ((a:Int)+4)).toNat:=Aaa
  have hE7:(jc s ((a:Int)+4)).toNat<=s.size:=Aaa
  rw [hf1,hf2,<-hoc] at hN1;have iQ:=Hq hN1;have hd0:¬(((jc s ((a:Int)+4)).toNat:Nat):Int) < 0:=Aaa
  rw [hE5] at Hw;clear hspec aap hq hst hN1 hf1 hf2 hf3 hf4 hoc hd hE hE5 hEl;have hd:=aGi hd0;generalize (jc s ((a:Int)+4)).toNat=E at *;generalize mW (lq (j6 s ((a:Int)+4)))=bW at *;generalize lq (j6 s ((a:Int)+4))=nn at *;open aCW in exact ayf
end Go.Proofs.YtohmklmkjmlpjaaGreatDoor
