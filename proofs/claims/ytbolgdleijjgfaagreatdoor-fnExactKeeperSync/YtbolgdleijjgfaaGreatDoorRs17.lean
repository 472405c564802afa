/- Parts. -/
import Derived.Test.YtbolgdleijjgfaaGreatDoorRs15
namespace Go.Proofs.YtbolgdleijjgfaaGreatDoor
open Go.Proofs.Tryz
set_option maxHeartbeats 8000000
set_option maxRecDepth 100000
open Go.RowKit
open Mth
variable {w w0 w' W w1 w2 wr:World} {s:ByteArray} {g a fb o:Nat} {v:Value} {cs:Array Value} {L:List gJ} {i:Int} {t:TypeId}
structure OS (w0 W:World) (g o:Nat) (s:ByteArray) (i:Int) (cs:Array Value):Prop where
 rd:jK W g s i
 res:W.heap[w0.heap.size]?=some (.cells (bJ 0 0 ⟨#[]⟩ 0 0 0 0 0 0 ⟨#[]⟩ 0) 73 (0,0))
 op:W.heap[o]?=some (.cells cs 73 (0,0))
 keep:dJ g w0 W
 lo:w0.heap.size < o
theorem OS.step {j:Int} (h:OS w0 W g o s i cs) (hr:jK w' g s j) (hk:dJ g W w') (hg:g < w0.heap.size):OS w0 w' g o s j cs:=
 ⟨hr,hk.obj h.res Aaa,hk.obj h.op (by have:=h.lo;omega),h.keep.trans hk,h.lo⟩
theorem OS.below (h:OS w0 W g o s i cs) (hb:aH W w') (hg:g < w0.heap.size):OS w0 w' g o s i cs:=
 h.step (aI h.rd hb) (dJ.of_below hb) hg
theorem dJ.setNew {h i:Nat} (k:dJ g w0 w) (hh:w0.heap.size<=h):dJ g w0 (w.setCell ⟨h,i,none⟩ v):=
 ⟨k.os,k.tape,k.output,by have:=k.size;simpa [World.setCell] using this,λx hx hg=>by
  have hne:x≠h:=Aaa
  rw [aE9 _ _ _ _ hne]
  exact k.block x hx hg⟩
theorem OS.set (h:OS w0 W g o s i cs) (hg:g < w0.heap.size) (k:Nat) (v:Value):OS w0 (W.setCell ⟨o,k,none⟩ v) g o s i (cs.setIfInBounds k v):=by
 have hlo:=h.lo;exact⟨one_other h.rd Aaa,one_other h.res Aaa,blk_set h.op k v,h.keep.setNew Aaa,hlo⟩
theorem OS.tail {a0 a1 a2 a3 a4 a5 a6 a7 a8 a9 Oe b4 b5 b6 b7 b8 b9 b10:Value} (h:OS w0 W g o s i #[a0,a1,a2,a3,a4,a5,a6,a7,a8,a9,Oe]) (hg:g < w0.heap.size):OS w0 (((((((W.setCell ⟨o,4,none⟩ b4).setCell ⟨o,5,none⟩ b5).setCell ⟨o,6,none⟩ b6).setCell ⟨o,7,none⟩ b7).setCell ⟨o,8,none⟩ b8).setCell ⟨o,9,none⟩ b9).setCell ⟨o,10,none⟩ b10) g o s i #[a0,a1,a2,a3,b4,b5,b6,b7,b8,b9,b10]:=by
 have h4:OS w0 (W.setCell ⟨o,4,none⟩ b4) g o s i #[a0,a1,a2,a3,b4,a5,a6,a7,a8,a9,Oe]:=h.set hg 4 b4;have h5:OS w0 ((W.setCell ⟨o,4,none⟩ b4).setCell ⟨o,5,none⟩ b5) g o s i #[a0,a1,a2,a3,b4,b5,a6,a7,a8,a9,Oe]:=h4.set hg 5 b5;have h6:OS w0 (((W.setCell ⟨o,4,none⟩ b4).setCell ⟨o,5,none⟩ b5).setCell ⟨o,6,none⟩ b6) g o s i #[a0,a1,a2,a3,b4,b5,b6,a7,a8,a9,Oe]:=h5.set hg 6 b6;have h7:OS w0 ((((W.setCell ⟨o,4,none⟩ b4).setCell ⟨o,5,none⟩ b5).setCell ⟨o,6,none⟩ b6).setCell ⟨o,7,none⟩ b7) g o s i #[a0,a1,a2,a3,b4,b5,b6,b7,a8,a9,Oe]:=h6.set hg 7 b7;have h8:OS w0 (((((W.setCell ⟨o,4,none⟩ b4).setCell ⟨o,5,none⟩ b5).setCell ⟨o,6,none⟩ b6).setCell ⟨o,7,none⟩ b7).setCell ⟨o,8,none⟩ b8) g o s i #[a0,a1,a2,a3,b4,b5,b6,b7,b8,a9,Oe]:=h7.set hg 8 b8;have h9:OS w0 ((((((W.setCell ⟨o,4,none⟩ b4).setCell ⟨o,5,none⟩ b5).setCell ⟨o,6,none⟩ b6).setCell ⟨o,7,none⟩ b7).setCell ⟨o,8,none⟩ b8).setCell ⟨o,9,none⟩ b9) g o s i #[a0,a1,a2,a3,b4,b5,b6,b7,b8,b9,Oe]:=h8.set hg 9 b9;have h10:OS w0 (((((((W.setCell ⟨o,4,none⟩ b4).setCell ⟨o,5,none⟩ b5).setCell ⟨o,6,none⟩ b6).setCell ⟨o,7,none⟩ b7).setCell ⟨o,8,none⟩ b8).setCell ⟨o,9,none⟩ b9).setCell ⟨o,10,none⟩ b10) g o s i #[a0,a1,a2,a3,b4,b5,b6,b7,b8,b9,b10]:=h9.set hg 10 b10;exact h10
theorem Handle.keep1 (h:Handle w) (hk:dJ g w w') (hg:g < w.heap.size) (hge:g≠0):Handle w':=PG h hk hg hge
theorem aDg (g:Nat) (s:ByteArray) (w:World) (hs:s.size<=maxLen) (hg:g < w.heap.size) (hge:g≠0) (h:jK w g s 0) (hH:Handle w):Calls prog 212 #[.pointer (some ⟨g,0,none⟩)] w λe w'=>(kW s=true/\e= .returned (jP (opC s))\/kW s=false/\∃p,e=Y9 p)/\dJ g w w':=by
 by_cases h0:s.size=0
 .have HK:=Hq (λw1 h=>Zc g s w1 h h0);have H:=Hq (aI h (au w (.cells (bJ 0 0 ⟨#[]⟩ 0 0 0 0 0 0 ⟨#[]⟩ 0) 73)));have hno:kW s=false:=by unfold kW;rw [aEN Aaa];rfl
  have mP:=Hq hno;clear h hH hno;generalize kW s=OK at *;go_in
  go_wp2_with fail;refine(HK _ H).mono ?_;rintro e w1 ⟨rfl,hb1⟩;have HB:=Hq (dJ.of_below (g:=g) ((au w _).trans (hb1.mono Aac)));clear hb1;go_wp2_with fail;exact⟨rfl,.inr ⟨mP,_,rfl⟩,HB⟩
 have h1:0 < s.size:=Aaa
 have HK:=Hq (λw1 h=>Uz g s w1 h h1);have az7:=Hq (λw1 h hh hE=>Kz g s 1 w1 hs h hh hE);have az6:=Hq (λw1 h hh hE=>QM g s 1 w1 hs h hh hE);have aAk:=Hq (λw1 h hh hE=>vC g s (jX s 1) w1 hs h hh hE);have aAj:=Hq (λw1 h hh hE=>KD g s (jX s 1) w1 hs h hh hE);have az9:Hid (∀w1:World,jK w1 g s (iZ s (jX s 1))->Handle w1->0<=Kq s->Calls prog 233 #[.pointer (some ⟨g,0,none⟩)] w1 λe w'=>e= .returned (.int .i64 (vB s (iZ s (jX s 1))))/\jK w' g s (Kq s)/\dJ g w1 w'):=λw1 h hh hE=>Kz g s (iZ s (jX s 1)) w1 hs h hh hE
 have az8:Hid (∀w1:World,jK w1 g s (iZ s (jX s 1))->Handle w1->Kq s < 0->Calls prog 233 #[.pointer (some ⟨g,0,none⟩)] w1 λe w'=>e=Y9 (iZ s (jX s 1))/\aH w1 w'):=λw1 h hh hE=>QM g s (iZ s (jX s 1)) w1 hs h hh hE
 have HM:Hid (∀w1:World,g < w1.heap.size->jK w1 g s (Kq s)->Handle w1->Calls prog 235 #[.pointer (some ⟨g,0,none⟩)] w1 λe w'=>((0<=MQ s/\rH s=true)/\e= .returned (nZ (mY (BH s)))/\jK w' g s (MQ s)\/¬(0<=MQ s/\rH s=true)/\∃p,e=Y9 p)/\dJ g w1 w'):=by
  intro w1 hg1 h2 h3;by_cases hE:0<=MQ s
  .by_cases hb:(BH s).size=0
   .refine(Zf g s (Kq s) w1 hs hg1 h2 h3 hE hb).mono ?_;rintro e w' ⟨he,hr,hk⟩;exact⟨.inl ⟨⟨hE,by unfold rH;rw [aEO hb];rfl⟩,he,hr⟩,hk⟩
   .cases ho:jV (BH s)
    .refine(Zd g s (Kq s) w1 hs hg1 hge h2 h3 hE (by have:(BH s).size≠0:=hb;unfold BH at this;omega) ho).mono ?_;rintro e w' ⟨he,hk⟩;exact⟨.inr ⟨(λhx=>by have h9:=hx.2;unfold rH at h9;rw [aEN hb,ho] at h9;cases h9),he⟩,hk⟩
    .refine(adj g s (Kq s) w1 hs hg1 hge h2 h3 hE (by have:(BH s).size≠0:=hb;unfold BH at this;omega) ho).mono ?_;rintro e w' ⟨he,hr,hk⟩;exact⟨.inl ⟨⟨hE,by unfold rH;rw [ho];simp⟩,he,hr⟩,hk⟩
  .refine(Ze g s (Kq s) w1 hs h2 h3 (by have:¬0<=MQ s:=hE;unfold MQ at this;omega)).mono ?_;rintro e w' ⟨he,hk⟩;exact⟨.inr ⟨λhx=>hE hx.1,he⟩,hk⟩
 have mW:=Hq (λw1=>YA (opC s) w1);have HF:=Hq (λw1 h=>M9 g s (MQ s) w1 h)
 have HG:Hid (kW s=true↔MQ s=s.size/\rH s=true/\bH (opC s)=true):=by
  show kW s=true↔_
  unfold kW;rw [aEO h1];simp[and_assoc]
 have HX:Hid (0<=MQ s->0<=Kq s/\0<=iZ s (jX s 1)/\0<=jX s 1):=λhE=>by
  have g3:0<=Kq s:=(iJ (s:=s) (i:=Kq s) hE).1
  have g2:=(lN (s:=s) (i:=iZ s (jX s 1)) g3).1
  exact⟨g3,g2,(iJ (s:=s) (i:=jX s 1) g2).1⟩
 have hC:opC s=⟨s[0].toNat,vB s 1,j6 s (jX s 1),vB s (iZ s (jX s 1)),mY (BH s)⟩:=by unfold opC;rw [L9 h1]
 rw [hC] at mW HG ⊢
 have mP:Hid (¬(0<=MQ s/\rH s=true)->kW s=false):=λhx=>by
  rw [aGI]
  intro hy
  have:=HG.1 hy
  exact hx ⟨Aaa,this.2.1⟩
 have HH:=Hq hH;have H:=Hq (aI h (au w (.cells (bJ 0 0 ⟨#[]⟩ 0 0 0 0 0 0 ⟨#[]⟩ 0) 73)));clear h hH hC h0;generalize kW s=OK at *;generalize mY (BH s)=m at *;generalize rH s=BO at *;open as7 in exact agN
theorem aC9 (s:ByteArray) (w:World) (hs:s.size<=maxLen) (hH:Handle w):Calls prog 196 #[.string s] w λe w'=>(kW s=true/\e= .returned (jP (opC s))\/kW s=false/\∃p,e=Y9 p)/\aH w w':=by
 obtain⟨hP,hR,hB⟩:=fU w (.cells (bJ 0 0 ⟨#[]⟩ 0 0 0 0 0 0 ⟨#[]⟩ 0) 73) (.cells #[.string s,.int .i64 0] 232)
 have hlt:0 < w.heap.size:=by
  exact ah7
 have HO:=Hq (aDg (w.heap.size+1) s _ hs Aac Aaa hR (hH.below hB));have HP:=Hq hP;have HB:=Hq hB;clear hP hR hB hs hH hlt;generalize opC s=oc at *;obtain⟨K,no,k,n,⟨mK,mF,mT,mI,mL,mk,mN⟩⟩:=oc;go_in
 go_wp2_with fail;refine HO.mono ?_;rintro e w1 ⟨hcase,hk⟩;have HR1:=Hq (hk.obj HP Aaa);have HB1:=Hq (hk.below HB Aaa HB.size);clear hk HO HP HB;rcases hcase with⟨hyes,rfl⟩|⟨hno,p,rfl⟩
 .obtain⟨⟨d0,d1,d2,d3,d4,d5,d6,d7,d8,d9,d10⟩,f0,f1,f2,f3,f4,f5,f6,f7,f8,f9,f10⟩:=aJ HR1;go_wp2_with fail;refine iw (λW' hW'=>?_);obtain⟨⟨r0,r1,r2,r3,r4,r5,r6,r7,r8,r9,r10⟩,_⟩:=aJ (show W'.heap[w.heap.size]?=some (.cells (bJ K no k n mK mF mT mI mL mk mN) 73 (0,0)) by rw [hW'];exact lF HR1);have hbb:aH w W':=by rw [hW'];exact iF HB1 (aEM _)
  exact aET (v:= .agg (bJ K no k n mK mF mT mI mL mk mN)) (by simp[results,results196,go_sem,r0,r1,r2,r3,r4,r5,r6,r7,r8,r9,r10]) rfl ⟨.inl ⟨hyes,rfl⟩,hbb⟩
 .go_wp2_with fail;exact⟨rfl,.inr ⟨hno,_,rfl⟩,HB1⟩
abbrev nW (o:gJ):List Value:=[.int .i64 o.K,.int .i64 o.no,.string o.k,.int .i64 o.n,.int .i64 o.m.K,.int .i64 o.m.F,.int .i64 o.m.T,.int .i64 o.m.I,.int .i64 o.m.L,.string o.m.k,.int .i64 o.m.N]
theorem jU (o:gJ):(nW o).length=11:=rfl
theorem Pm:∀(o:gJ),∀u∈nW o,u.oneCell'=true:=by
 intro o u hu;simp only[nW,aE8,aFR,or_false] at hu;rcases hu with rfl|rfl|rfl|rfl|rfl|rfl|rfl|rfl|rfl|rfl|rfl<;>rfl
theorem yO (l:List gJ) (o:gJ):GR.flat nW (l++[o])=GR.flat nW l++nW o:=by rw [GR.flat_append,GR.flat_one]
abbrev JO (w:World) (a:Option Addr) (l:List gJ):Prop:=GR.At nW 11 w a l
theorem JO.eleven {a:Option Addr} {l:List gJ} (h:JO w a l) (i:Nat) (hi:i < l.length):∃g off,a=some ⟨g,off,none⟩/\g < w.heap.size/\w.cell? ⟨g,off+i*11,none⟩=some (.int .i64 l[i].K)/\w.cell? ⟨g,off+i*11+1,none⟩=some (.int .i64 l[i].no)/\w.cell? ⟨g,off+i*11+2,none⟩=some (.string l[i].k)/\w.cell? ⟨g,off+i*11+3,none⟩=some (.int .i64 l[i].n)/\w.cell? ⟨g,off+i*11+4,none⟩=some (.int .i64 l[i].m.K)/\w.cell? ⟨g,off+i*11+5,none⟩=some (.int .i64 l[i].m.F)/\w.cell? ⟨g,off+i*11+6,none⟩=some (.int .i64 l[i].m.T)/\w.cell? ⟨g,off+i*11+7,none⟩=some (.int .i64 l[i].m.I)/\w.cell? ⟨g,off+i*11+8,none⟩=some (.int .i64 l[i].m.L)/\w.cell? ⟨g,off+i*11+9,none⟩=some (.string l[i].m.k)/\w.cell? ⟨g,off+i*11+10,none⟩=some (.int .i64 l[i].m.N):=by
 obtain⟨g,off,e,hg,hc⟩:=h i hi;refine⟨g,off,e,hg,?_,?_,?_,?_,?_,?_,?_,?_,?_,?_,?_⟩
 .simpa using hc 0 Aaa
 .exact Wl
 .exact Wm
 .exact Wn
 .simpa [aFp] using hc 4 Aaa
 .simpa [aFp] using hc 5 Aaa
 .simpa [aFp] using hc 6 Aaa
 .simpa [aFp] using hc 7 Aaa
 .simpa [aFp] using hc 8 Aaa
 .simpa [aFp] using hc 9 Aaa
 .simpa [aFp] using hc 10 Aaa
theorem acw:(prog.info? 73).map (λi=>(i.zero,i.size,i.bytes))=some (some (.agg (bJ 0 0 ByteArray.empty 0 0 0 0 0 0 ByteArray.empty 0)),11,104):=Aab
theorem azG {c:Nat} (h:w.heap[c]?=some (.cells cs t (0,0))) (i:Nat) (v:Value):(w.setCell ⟨c,i,none⟩ v).heap[c]?=some (.cells (cs.setIfInBounds i v) t (0,0)):=by
 exact VY
theorem ai8 (h:w.heap[g]?=some (.cells cs t (0,0))) (i:Nat):w.frozen? ⟨g,i,none⟩=false:=by
 unfold World.frozen?;rw [h];simp
theorem ZL {v0 v1:Value} (h:w.heap[g]?=some (.cells #[v0,v1] t (0,0))):w.cell? ⟨g,0,none⟩=some v0/\w.cell? ⟨g,1,none⟩=some v1:=by
 have hc:∀i,w.cell? ⟨g,i,none⟩=#[v0,v1][i]?:=λi=>aEW w g i _ t (0,0) h
 exact⟨hc 0,hc 1⟩
structure FS (w0 w:World) (fb g:Nat) (s:ByteArray) (v:Value) (L:List gJ) (a:Nat):Prop where
 keep:dJ fb w0 w
 blk:w.heap[fb]?=some (.cells #[v,.int .i64 a] 210 (0,0))
 own:w.ownsRow (g+1) 73 11 v L.length (GR.flat nW L)
 by_:BytesAt w g s
 lo:fb < w0.heap.size
 gl:w0.heap.size<=g/\g < w.heap.size
theorem FS.step (h:FS w0 w fb g s v L a) (hb:aH w w'):FS w0 w' fb g s v L a:=
 ⟨h.keep.trans (dJ.of_below hb),aI h.blk hb,own_below h.own hb,h.by_.below h.gl.2 hb,h.lo,h.gl.1,aEU h.gl.2 hb.size⟩
theorem FS.app {w6:World} {v':Value} (h:FS w0 w fb g s v L a) (o:gJ) (hown:w6.ownsRow (g+1) 73 11 v' (L.length+1) (GR.flat nW L++nW o)) (hg:w.grownBy w6 v.ownBlock):
 w6.heap[fb]?=some (.cells #[v,.int .i64 a] 210 (0,0))/\∀z:Nat,FS w0 ((w6.setCell ⟨fb,0,none⟩ v').setCell ⟨fb,1,none⟩ (.int .i64 z)) fb g s v' (L++[o]) z:=by
 have hlt:∀x,v.ownBlock=some x->g+1<=x:=λx hx=>(h.own.lt x hx).1
 have hgl:=h.gl;have hlo:=h.lo
 have hb:w6.heap[fb]?=some (.cells #[v,.int .i64 a] 210 (0,0)):=by
  rw [hg.block fb (cK h.blk) (λe=>by have:=hlt fb e.symm;omega)];exact h.blk
 have hbg:w6.heap[g]?=w.heap[g]?:=hg.block g hgl.2 (λe=>by have:=hlt g e.symm;omega)
 have h6:dJ fb w0 w6:=⟨hg.os.trans h.keep.os,hg.tape.trans h.keep.tape,hg.output.trans h.keep.output,aEP h.keep.size hg.size,λk hk hne=>by
  rw [hg.block k (aEU hk h.keep.size) (λe=>by have:=hlt k e.symm;omega)]
  exact h.keep.block k hk hne⟩
 have hby:BytesAt w6 g s:=λi hi=>(aFq (w:=w) hbg).trans (h.by_ i hi)
 have gr:∀(w1:World) (i:Nat) (u:Value),w1.grownBy (w1.setCell ⟨fb,i,none⟩ u) (some fb):=λw1 i u=>⟨rfl,rfl,rfl,Aaq,λk _ hne=>aE9 _ _ _ _ (λe=>hne Aap)⟩
 have hne:v'.ownBlock=none\/v'.ownBlock≠some fb:=by
  right
  intro e;have:=(hown.lt fb e).1;omega
 have st:∀(w1:World) (i:Nat) (u:Value),BytesAt w1 g s->BytesAt (w1.setCell ⟨fb,i,none⟩ u) g s:=λw1 i u hw j hj=>(aFV _ _ _ _ (by simp<;>omega)).trans (hw j hj)
 refine⟨hb,λz=>⟨(h6.trans (dJ.set _)).trans (dJ.set _),azG (azG hb 0 v') 1 (.int .i64 z),?_,st _ _ _ (st _ _ _ hby),hlo,hgl.1,?_⟩⟩
 .rw [aER,yO];exact(hown.kept (gr _ 0 v') hne).kept (gr _ 1 (.int .i64 z)) hne
 .have:=hg.size;simp[World.setCell];omega
def endOf (w:World) (fb:Nat):Nat:=match w.cell? ⟨fb,1,none⟩ with|some (.int _ z)=>z.toNat|_=>0
theorem FS.endOf (h:FS w0 w fb g s v L a):endOf w fb=a:=by
 unfold Go.Proofs.YtbolgdleijjgfaaGreatDoor.endOf;rw [(ZL h.blk).2];simp
def Found (w w':World) (fb:Nat) (s:ByteArray):Prop:=dJ fb w w'/\∃v,w'.heap[fb]?=some (.cells #[v,.int .i64 (gF s).2] 210 (0,0))/\w'.ownsRow (w.heap.size+1) 73 11 v (gF s).1.length (GR.flat nW (gF s).1)
theorem FS.found (h:FS w0 w fb w0.heap.size s v L a) (hS:zP s a L) (hs:Eh s a=false) (hb:aH w w'):Found w0 w' fb s:=by
 have h2:=h.step hb;refine⟨h2.keep,v,?_,?_⟩
 .rw [CK hS hs];exact h2.blk
 .rw [CK hS hs];exact h2.own
theorem ac5 (h:¬Wt s a):Eh s a=false/\IB s a= -1:=by
 unfold Eh IB;rw [aEN h,aEX h];exact⟨rfl,rfl⟩
theorem readAll (fb:Nat) (s:ByteArray) (hs:s.size<=60000) (w:World) (hfb:fb < w.heap.size) (hne:fb≠0) (hf:w.heap[fb]?=some (.cells #[.slice none 0 0,.int .i64 0] 210 (0,0))) (hH:Handle w):
 Calls prog 176 #[.pointer (some ⟨fb,0,none⟩),.string s] w λe w'=>(e= .returned (.tuple #[])\/∃p,e=Y9 p)/\Found w w' fb s:=by
 obtain⟨i0,hi,hz0,hz1,hz2⟩:=aFm acw;obtain⟨cap,w1,abX,hcap,hby,hlt1,hbel⟩:=Tz s w;have HF1:=Hq (show FS w w1 fb w.heap.size s (.slice none 0 0) [] 0 from⟨dJ.of_below hbel,aI hf hbel,World.ownsRow_nil _ _ _ _,hby,hfb,aEM _,hlt1⟩);have HH:=Hq hH;have zB:=Hq (Dp s hs);clear hbel hby hf hH hlt1;go_in
 go_wp2_with fail;go_loopw [] (λwr=>∃a v L,FS w wr fb w.heap.size s v L a/\zP s a L) (λwr=>s.size - endOf wr fb)
 case atStart=>exact⟨0,_,[],HF1,zB⟩
 case round=>
  clear HF1 zB abX;obtain⟨a,v,L,hF,hS⟩:=hrel;have hcl:=hF.lo;have hbl:=cK hF.blk;obtain⟨va,vc,hv,_⟩:=GR.own_at (enc:=nW) (sz:=11) (l:=L) jU hF.own;subst hv;obtain⟨c0,c1⟩:=ZL hF.blk;have hea:endOf wr fb=a:=hF.endOf;have HF:=Hq hF;have HEA:=Hq hea;have HS:=Hq hS;have ha:=hS.2.1;have HL:=Hq hS.1;clear hF hS hea;by_cases hlt:a < s.size
  case' neg=>
   have hnl:decide ((a:Int) < (s.size:Int))=false:=Aah
   go_wp2_with fail;exact aGD (v:= .tuple #[]) (by simp[results,results176,go_sem]) rfl ⟨.inl rfl,HF.found HS (Rw Aaa) (aEY _ _)⟩
  have hlI:(a:Int) < (s.size:Int):=Aaa
  have HFA:=Hq (afd s hs a ha w.heap.size cap hcap wr HF.by_ HF.gl.2 (HH.keep1 HF.keep hfb hne));by_cases hfa:Wt s a
  case' neg=>
   obtain⟨hst,hE⟩:=ac5 hfa;have HST:=Hq hst;clear hst;rw [hE] at HFA;clear hE hfa;generalize Ig s a=TX at *;go_wp2_with fail;refine HFA.mono ?_;rintro e w2 ⟨rfl,hb2⟩;obtain⟨d0,d1⟩:=ZL (HF.step hb2).blk;have HB2:=Hq hb2;clear hb2 c0 c1;go_wp2_with fail;exact⟨rfl,.inr ⟨_,rfl⟩,HF.found HS HST HB2⟩
  have HFB:=Hq hfa
  have hE:IB s a=((IB s a).toNat:Nat):=by
   have h1:=hfa.2.1;have:IB s a=a+4+Bw (tl s a):=aE7 hfa;omega
  have hE2:(IB s a).toNat<=100000:=by
   have h1:IB s a=a+4+Bw (tl s a):=aE7 hfa;have h2:=UD (iI (tl s a)) 0;have h3:=tO (tl s a);unfold Bw at h1;omega
  have hTX:(Ig s a).size<=1000:=by
   have h1:Ig s a=Ei (tl s a):=aE7 hfa;rw [h1];exact Gl _ _
  have HO:=Hq (λw1 h=>aC9 (Ig s a) w1 (aEP hTX Aaj) h);have HY:=Hq (show kW (Ig s a)=true->Eh s a=true from λh=>by unfold Eh;rw [aEO hfa,h];rfl);have HN:=Hq (show kW (Ig s a)=false->Eh s a=false from λh=>by unfold Eh;rw [h,Bool.and_false]);have iE:=Hq (show Eh s a=true->zP s (IB s a).toNat (L++[opC (Ig s a)]) from λh=>Gw HS h);have HGT:=Hq (show Eh s a=true->a < (IB s a).toNat/\(IB s a).toNat<=s.size from λh=>by obtain⟨_,_,_,h4,h5,_⟩:=uf h;omega);clear hTX hfa HFB;rw [hE] at HFA;clear hE;generalize (IB s a).toNat=z at *;generalize kW (Ig s a)=OK at *;generalize hoc:opC (Ig s a)=oc at *;clear hoc;generalize Ig s a=TX at *;obtain⟨K,no,k,n,⟨mK,mF,mT,mI,mL,mk,mN⟩⟩:=oc;go_wp2_with fail;refine HFA.mono ?_;rintro e w2 ⟨rfl,hb2⟩;have HF2:=Hq (HF.step hb2);clear hb2 c0 c1 HFA;go_upto_region 5 with fail;refine wp_at (λW hW=>?_);obtain rfl:=hW;have aDF:=cK HF2.blk;obtain⟨c0,c1⟩:=ZL HF2.blk;have y0:=aEL c0;clear c0 c1;refine mO Aab ?_;show wW _ _ _ _ 12 (Array.replicate 12 false) _ _
  open aqF in exact aj7
theorem Found.step (h:Found w w1 fb s) (hb:aH w1 w2):Found w w2 fb s:=by
 obtain⟨hk,v,hv,ho⟩:=h;exact⟨hk.trans (dJ.of_below hb),v,aI hv hb,own_below ho hb⟩
theorem Ux {B B' size n:Nat} {e:TypeId} {xs:List Value} (h:w.ownsRow B e size v n xs) (hB:B'<=B):w.ownsRow B' e size v n xs:=by
 refine⟨h.1,?_⟩;rcases h.2 with hn|⟨g,cap,cur,rfl,hb,rest⟩
 .exact .inl hn
 .exact .inr ⟨g,cap,cur,rfl,aEP hB hb,rest⟩
theorem QN (a fb:Nat) (s:ByteArray) (hs:s.size<=60000) (w:World) (hfb:fb < w.heap.size) (hne:fb≠0) (hf:w.heap[fb]?=some (.cells #[.slice none 0 0,.int .i64 0] 210 (0,0))) (hH:Handle w) (ha:w.cell? ⟨a,0,none⟩=some (.string s)):
 Calls prog 175 #[.pointer (some ⟨fb,0,none⟩),.pointer (some ⟨a,0,none⟩)] w λe w'=>(e= .returned (.tuple #[])\/∃p,e=Y9 p)/\Found w w' fb s:=by
 have HR:=Hq (readAll fb s hs w hfb hne hf hH);clear hs hf hH;go_in
 go_wp2_with fail;refine HR.mono ?_;rintro e w1 ⟨hcase,hF⟩;have HF:=Hq hF;clear hF;rcases hcase with rfl|⟨p,rfl⟩
 .go_wp2_with fail;exact aGD (v:= .tuple #[]) (by simp[results,results175,go_sem]) rfl ⟨.inl rfl,HF⟩
 .go_wp2_with fail;exact⟨rfl,.inr ⟨_,rfl⟩,HF⟩
theorem UZ (a fb:Nat) (s:ByteArray) (hs:s.size<=60000) (w:World) (hfb:fb < w.heap.size) (hne:fb≠0) (hf:w.heap[fb]?=some (.cells #[.slice none 0 0,.int .i64 0] 210 (0,0))) (hH:Handle w) (ha:w.cell? ⟨a,0,none⟩=some (.string s)):
 Calls prog 174 #[.func (.func 175) #[] #[.pointer (some ⟨fb,0,none⟩),.pointer (some ⟨a,0,none⟩)]] w λe w'=>(∃b,e= .returned (.bool b))/\Found w w' fb s:=by
 have HC:=Hq (QN a fb s hs w hfb hne hf hH ha);clear hs hH ha hf;have hdf:∀(fn:Fn) (first cap:Array Value) (w:World),(Instr.makeFunc fn first cap).run prog w= .ok (.func fn first cap) w:=λ_ _ _ _=>rfl
 go_enter_defers func174,ntmps174
 go_wp2_with fail;refine HC.mono ?_;rintro e w1 ⟨hcase,hF⟩;have HF:=Hq hF;clear hF HC;rcases hcase with rfl|⟨p,rfl⟩
 .go_wp2_with fail;refine leaves_cons (f:=194) (args:=#[]) Aac Ach ?_;refine(Tt _).mono ?_;rintro e u' w'' ⟨rfl,rfl,rfl⟩;simp[Leaves,settle,results,results174,go_sem];exact HF
 .go_wp2_with fail;refine leaves_cons (f:=194) (args:=#[]) Aac Ach ?_;refine(Ya p [] _).mono ?_;rintro e u' w'' ⟨rfl,rfl,hb⟩;have HF2:=Hq (HF.step hb);clear hb;simp[Leaves,settle,results,results174,go_sem];exact HF2
def lC (w:World) (s:ByteArray) (e:Ending) (w':World):Prop:=∃v,e= .returned (.tuple #[v,.int .i64 (gF s).2])/\w'.ownsRow w.heap.size 73 11 v (gF s).1.length (GR.flat nW (gF s).1)/\aH w w'
theorem lC.step {e:Ending} (h:lC w s e w1) (hb:aH w1 w2):lC w s e w2:=by
 obtain⟨v,he,ho,hB⟩:=h;exact⟨v,he,own_below ho hb,hB.trans (hb.mono hB.size)⟩
theorem acu (s:ByteArray) (_hs:s.size<=maxLen) (w:World) (hH:Handle w):Calls prog 144 #[.string s] w (lC w s):=by
 by_cases hbig:60000 < s.size
 .have hb1:(60000:Int) < (s.size:Int):=Aaa
  have HP:=Hq (show lC w s (.returned (.tuple #[.slice none 0 0,.int .i64 0])) (w.alloc (.cells #[.string s] 9)) from by
   have e:gF s=([],0):=by unfold gF;rw [aEX Aaa]
   refine⟨.slice none 0 0,?_,?_,au w _⟩
   .rw [e];rfl
   .rw [e];exact World.ownsRow_nil _ _ _ _)
  clear hH;go_in
  go_wp2_with fail;exact aET (v:= .tuple #[.slice none 0 0,.int .i64 0]) (by simp[results,results144,go_sem]) rfl HP
 .have hlt:0 < w.heap.size:=by
   exact ah7
  have hb1:¬((60000:Int) < (s.size:Int)):=Aaa
  obtain⟨hA,hF,hB⟩:=fU w (.cells #[.string s] 9) (.cells #[.slice none 0 0,.int .i64 0] 210);have HW:=Hq (UZ w.heap.size (w.heap.size+1) s Aaa _ Aac Aaa hF (hH.below hB) (aEW _ w.heap.size 0 _ 9 (0,0) hA));have HB:=Hq hB;have hsz:((w.alloc (.cells #[.string s] 9)).alloc (.cells #[.slice none 0 0,.int .i64 0] 210)).heap.size=w.heap.size+2:=Aac
  clear hA hF hB hH hlt;have hmf:∀(fn:Fn) (first cap:Array Value) (w:World),(Instr.makeFunc fn first cap).run prog w= .ok (.func fn first cap) w:=λ_ _ _ _=>rfl
  go_in
  go_wp2_with fail;refine HW.mono ?_;rintro e w1 ⟨⟨b,rfl⟩,hk,v,hv,ho⟩;rw [hsz] at ho;have HP:=Hq (show lC w s (.returned (.tuple #[v,.int .i64 (gF s).2])) w1 from⟨v,rfl,Ux ho Aaa,hk.below HB Aaa HB.size⟩);have hwl:=cK hv;obtain⟨c0,c1⟩:=ZL hv;clear hv ho hk HW HB
  obtain⟨va,vc,hvv,_⟩:∃a c,v= .slice a (gF s).1.length c/\True:=by
   obtain⟨v2,he,hown,_⟩:=ah HP;simp only[Ending.returned.injEq,Value.tuple.injEq] at he;obtain⟨a2,c2,h2,_⟩:=GR.own_at (enc:=nW) (sz:=11) jU hown;have:v=v2:=by simpa using he
   exact⟨a2,c2,by rw [this,h2],trivial⟩
  subst hvv;generalize (gF s).2=E at *;generalize (gF s).1.length=N at *;go_wp2_with fail;go_quiet (fail);go_wp2_with fail;exact aET (v:= .tuple #[.slice va N vc,.int .i64 E]) (by simp[results,results144,go_sem]) rfl (HP.step ⟨rfl,rfl,rfl,aEM _,λ_ _=>rfl⟩)
theorem J2 (ho:wr.ownsRow w.heap.size 73 11 v L.length (GR.flat nW L)) (hb:aH w wr) (hS:zP s a L) (hs:Eh s a=false) (hz:aH wr w'):lC w s (.returned (.tuple #[v,.int .i64 a])) w':=by
 have e:=CK hS hs;exact⟨v,Aap,by rw [e];exact own_below ho hz,hb.trans (hz.mono hb.size)⟩
theorem Yk (ho:wr.ownsRow w.heap.size 73 11 v ([]:List gJ).length (GR.flat nW [])) (hb:aH w wr) (h:60000 < s.size):lC w s (.returned (.tuple #[v,.int .i64 (0:Nat)])) wr:=by
 have e:gF s=([],0):=by unfold gF;rw [aEX Aaa]
 exact⟨v,Aap,by rw [e];exact ho,hb⟩
theorem qQ.AaD{P:Prop}(h:P:=by
 clear hK K;exact aAU.AaD):P:=h
theorem Rs (s:ByteArray) (hs:s.size<=maxLen) (w:World):Calls prog 48 #[.string s] w (lC w s):=by
 obtain⟨i0,hi,hz0,hz1,hz2⟩:=aFm acw;have hs2:s.size<=9223372036854775807:=by unfold maxLen at hs;omega
 have HG:=Hq (λi w1=>Nu s i hs w1);clear hs;go_in
 go_wp2_with fail;go_loopw [4,5] (λv at_ wr=>∃(a:Nat) (L:List gJ),at_= .int .i64 a/\wr.ownsRow w.heap.size 73 11 v L.length (GR.flat nW L)/\aH w wr/\((s.size<=60000/\zP s a L)\/(60000 < s.size/\a=0/\L=[]))) (λ_ at_ _=>s.size - (intOf at_).toNat)
 case atStart=>
  refine⟨0,[],rfl,aFw _ #[] 0 (aEM _) Aae rfl,(aEY _ _).alloc (aEM _) _,?_⟩;by_cases h:s.size<=60000
  .exact .inl ⟨h,Dp s h⟩
  .exact .inr ⟨Aaa,rfl,rfl⟩
 case round=>
  obtain⟨a,L,rfl,hown,hbel,hcase⟩:=hrel;obtain⟨va,vc,rfl,_⟩:=GR.own_at (enc:=nW) (sz:=11) (l:=L) jU hown;have HOWN:=Hq hown;have aY:=Hq hbel;clear hown hbel;rcases hcase with⟨hsm,hS⟩|⟨hbig,rfl,rfl⟩
  case' inr=>
   have hb1:decide ((s.size:Int)<=60000)=false:=Aah
   go_wp2_with fail;exact aET (v:= .tuple #[.slice va 0 vc,.int .i64 0]) Acu rfl (Yk HOWN aY hbig)
  have hb1:decide ((s.size:Int)<=60000)=true:=Aah
  have ha:=hS.2.1;have HS:=Hq hS;clear hS;by_cases h4:a+4 < s.size
  case' neg=>
   have hb2:decide ((4:Int) < (s.size:Int) - (a:Int))=false:=Aah
   have HST:=Hq (Rw h4);go_wp2_with fail;exact aET (v:= .tuple #[.slice va L.length vc,.int .i64 a]) Acu rfl (J2 HOWN aY HS HST (aEY _ _))
  have hb2:decide ((4:Int) < (s.size:Int) - (a:Int))=true:=Aah
  have h4i:(a:Int)+4 < (s.size:Int):=Aaa
  have hw4:IntKind.i64.wrap ((a:Int)+4)=(a:Int)+4:=IntWalk.i64_in _ ⟨Aaa,Aaa⟩;have hw5:0<=(a:Int)+4/\(a:Int)+4<=(s.size:Int):=Aaa
  have hw6:(a:Int)<=(a:Int)+4:=Aaa
  have hw7:((a:Int)+4).toNat=a+4:=Aaa
  have Hw:=Hq (λw1=>HG ((a:Int)+4) w1);have hTX:=Gl s ((a:Int)+4);have hEl:=UD s ((a:Int)+4);have akJ:(j6 s ((a:Int)+4)).size<=maxLen:=aEP hTX Aaj;have EG:=Hq (λw1=>Zy (j6 s ((a:Int)+4)) akJ w1);have HC:=Hq (λw1=>Nl (j6 s ((a:Int)+4)) w1 akJ);have e:(65536*(sums (j6 s ((a:Int)+4)).data.toList).2+(sums (j6 s ((a:Int)+4)).data.toList).1:Int)=(kQ (j6 s ((a:Int)+4)):Int):=by unfold kQ;omega
  rw [e] at HC;have HW:=Hq (λw1=>afz (kQ (j6 s ((a:Int)+4))) (NA _) w1);have hspec:=adC s a h4;have aak:=Hq (λh:Eh s a=true=>(show _/\_ from⟨Gw HS h,uf h⟩));unfold LW at EG;have HOC:=Hq (show kW (j6 s ((a:Int)+4))=true->getOp (j6 s ((a:Int)+4))=opC (j6 s ((a:Int)+4)) from λh=>by unfold getOp;rw [aE7 h]);clear e hTX akJ HG;by_cases hE:iZ s ((a:Int)+4) < 0
  case' pos=>
   have HST:=Hq (show Eh s a=false by rw [hspec,aEN Aaa];rfl);have hd:decide (iZ s ((a:Int)+4) < 0)=true:=aEO hE;clear hspec aak HOC;generalize iZ s ((a:Int)+4)=E at *;generalize mJ (kQ (j6 s ((a:Int)+4)))=bW at *;generalize kQ (j6 s ((a:Int)+4))=nn at *;generalize kW (j6 s ((a:Int)+4))=OK at *;exact Zk9
  have hd:decide (iZ s ((a:Int)+4) < 0)=false:=aEN hE;have hd2:decide (0<=iZ s ((a:Int)+4))=true:=aEO Aaa;rw [hd2,Bool.true_and] at hspec;clear hd2;cases hok:kW (j6 s ((a:Int)+4))
  case' false=>
   have HST:=Hq (show Eh s a=false by rw [hspec,hok];rfl);rw [hok] at EG;clear hspec aak HOC hok;exact aic
  rw [hok,Bool.true_and] at hspec;rw [hok] at EG;have hoc:=ah HOC hok;clear HOC hok;by_cases hq:s.extract a (a+4)=mJ (kQ (j6 s ((a:Int)+4)))
  case' neg=>
   have HST:=Hq (show Eh s a=false by rw [hspec,aEN hq])
   have hqq:((s.extract a (a+4)).toList == (mJ (kQ (j6 s ((a:Int)+4)))).toList)=false:=by
    rw [aGm];intro h;rw [aFB,aFB] at h;exact hq (aF3 (Array.ext' h))
   clear hspec aak hq hoc;exact aic
  have hqq:((s.extract a (a+4)).toList == (mJ (kQ (j6 s ((a:Int)+4)))).toList)=true:=by rw [hq];simp
  have hst:Eh s a=true:=by rw [hspec,aEO hq]
  obtain⟨hN1,_,hf1,hf2,hf3,hf4,_⟩:=ah aak hst;have hE5:iZ s ((a:Int)+4)=((iZ s ((a:Int)+4)).toNat:Nat):=Aaa
  have hE6:a < (iZ s ((a:Int)+4)).toNat:=Aaa
  have hE7:(iZ s ((a:Int)+4)).toNat<=s.size:=Aaa
  rw [hf1,hf2,<-hoc] at hN1;have iE:=Hq hN1;have hd0:¬(((iZ s ((a:Int)+4)).toNat:Nat):Int) < 0:=Aaa
  rw [hE5] at Hw;clear hspec aak hq hst hN1 hf1 hf2 hf3 hf4 hoc hd hE hE5 hEl;have hd:=aEN hd0;generalize (iZ s ((a:Int)+4)).toNat=E at *;generalize mJ (kQ (j6 s ((a:Int)+4)))=bW at *;generalize kQ (j6 s ((a:Int)+4))=nn at *;open qQ in exact aww
end Go.Proofs.YtbolgdleijjgfaaGreatDoor
