/- Parts. -/
import Derived.Test.YtohmklmkjmlpjaaGreatDoorRk16
import Derived.Test.YtohmklmkjmlpjaaGreatDoorRk11
namespace Go.Proofs.YtohmklmkjmlpjaaGreatDoor
open Go.Proofs.Tryz
set_option maxHeartbeats 8000000
set_option maxRecDepth 100000
open Go.RowKit
open Mth
variable (g:Nat) (s:ByteArray) (i:Int) (w:World) {w' w0 W:World} {v b4 b5 b6 b0 b1 b2 b3:Value} {a fb o:Nat} {cs:Array Value} {L:List gQ} {t:TypeId}
structure dR (g:Nat) (w w':World):Prop where
 os:w'.os=w.os
 tape:w'.tape=w.tape
 output:w'.output=w.output
 size:w.heap.size<=w'.heap.size
 block:∀k,k < w.heap.size->k≠g->w'.heap[k]?=w.heap[k]?
theorem dR.of_below {g:Nat} {w:World} (h:aI w w'):dR g w w':=⟨h.os,h.tape,h.output,h.size,λk hk _=>h.block k hk⟩
theorem dR.trans {g:Nat} {a b c:World} (h:dR g a b) (k:dR g b c):dR g a c:=
 ⟨k.os.trans h.os,k.tape.trans h.tape,k.output.trans h.output,Nat.le_trans h.size k.size,λi hi hg=>(k.block i (Nat.lt_of_lt_of_le hi h.size) hg).trans (h.block i hi hg)⟩
theorem dR.set {g i:Nat} {w:World} (v:Value):dR g w (w.setCell ⟨g,i,none⟩ v):=⟨rfl,rfl,rfl,Aar,λk _ hg=>Below.heap_setCell _ _ _ _ hg⟩
theorem dR.below {g B:Nat} {a w:World} (hb:Below B a w) (h:dR g w w') (hg:B<=g) (hB:B<=w.heap.size):Below B a w':=
 ⟨h.os.trans hb.os,h.tape.trans hb.tape,h.output.trans hb.output,Nat.le_trans hb.size h.size,λk hk=>(h.block k Aaa Aaa).trans (hb.block k hk)⟩
theorem dR.obj {g k:Nat} {w:World} {o:Obj} (h:dR g w w') (hk:w.heap[k]?=some o) (hne:k≠g):w'.heap[k]?=some o:=by rw [h.block k (dG hk) hne];exact hk
abbrev Yh (p:Int):Ending:= .panicked [{v:= .iface 211 (.agg #[.int .i64 p]),recovered:=false}]
abbrev jE (w:World) (g:Nat) (s:ByteArray) (i:Int):Prop:=w.heap[g]?=some (.cells #[.string s,.int .i64 i] 228 (0,0))
theorem jE.two {w:World} {g:Nat} {s:ByteArray} {i:Int} (h:jE w g s i):w.cell? ⟨g,0,none⟩=some (.string s)/\w.cell? ⟨g,1,none⟩=some (.int .i64 i)/\w.frozen? ⟨g,0,none⟩=false/\w.frozen? ⟨g,1,none⟩=false:=by
 have hf:∀i,w.frozen? ⟨g,i,none⟩=false:=λi=>by unfold World.frozen?;rw [h];simp
 have hc:∀j,w.cell? ⟨g,j,none⟩=#[Value.string s,Value.int .i64 i][j]?:=λj=>cell_of_row w g j _ 228 (0,0) h
 exact⟨hc 0,hc 1,hf 0,hf 1⟩
theorem jE.set {w:World} {g:Nat} {s:ByteArray} {i:Int} (h:jE w g s i) (j:Int):jE (w.setCell ⟨g,1,none⟩ (.int .i64 j)) g s j:=blk_set h 1 (.int .i64 j)
theorem jm (w:World) (n:Nat):Below w.heap.size w (w.drewN n):=⟨rfl,rfl,rfl,Nat.le_refl _,λ_ _=>rfl⟩
theorem Mc (h:jE w g s i):Calls prog 230 #[.pointer (some ⟨g,0,none⟩)] w λe w'=>e=Yh i/\w=w':=by
 obtain⟨c0,c1,f0,f1⟩:=h.two;clear h;go_in
 go_wp2_with fail;exact⟨rfl,rfl,rfl⟩
theorem Wi (g:Nat) (s:ByteArray) (i n:Int) (w:World) (h:jE w g s i) (hn:n < 0):Calls prog 255 #[.pointer (some ⟨g,0,none⟩),.int .i64 n] w λe w'=>e=Yh i/\w=w':=by
 have HF:=Hq (λw1 h=>Mc g s i w1 h);have H:=Hq h;clear h;go_in
 go_wp2_with fail;refine(HF _ H).mono ?_;rintro e w1 ⟨rfl,rfl⟩;go_wp2_with fail;exact⟨rfl,rfl,rfl⟩
theorem Qr (g:Nat) (s:ByteArray) (i n:Int) (w:World) (h:jE w g s i) (hn:0<=n):Calls prog 255 #[.pointer (some ⟨g,0,none⟩),.int .i64 n] w λe w'=>e= .returned (.tuple #[])/\w.setCell ⟨g,1,none⟩ (.int .i64 n)=w':=by
 obtain⟨c0,c1,f0,f1⟩:=h.two;have hn2:¬n < 0:=Aaa
 clear h;go_in
 go_wp2_with fail;exact bodyPost_end (v:= .tuple #[]) (by simp[results,results255,go_sem]) rfl ⟨rfl,rfl⟩
theorem Yk (g:Nat) (s:ByteArray) (w:World) (h:jE w g s 0) (hs:s.size=0):Calls prog 225 #[.pointer (some ⟨g,0,none⟩)] w λe w'=>e=Yh 0/\aI w w':=by
 have HF:=Hq (λw1 h=>Mc g s 0 w1 h);obtain⟨c0,c1,f0,f1⟩:=h.two;have H:=Hq h;have he:((0:Int) == (s.size:Int))=true:=by simp[hs]
 clear h;go_in
 go_upto_region 1 with fail;go_quiet (fail);go_wp2_with fail;refine(HF _ (aN H (jm w _))).mono ?_;rintro e w1 ⟨rfl,rfl⟩;go_wp2_with fail;exact⟨rfl,rfl,jm w _⟩
theorem Ud (g:Nat) (s:ByteArray) (w:World) (h:jE w g s 0) (hs:0 < s.size):Calls prog 225 #[.pointer (some ⟨g,0,none⟩)] w λe w'=>e= .returned (.int .i64 (s[0].toNat:Int))/\jE w' g s 1/\dR g w w':=by
 obtain⟨c0,c1,f0,f1⟩:=h.two;have H:=Hq h;have he:((0:Int) == (s.size:Int))=false:=Aag
 have he2:¬((0:Int)=(s.size:Int)):=Aaa
 have hi0:(0:Int) < (s.size:Int):=Aaa
 open avW in exact Vl
theorem Qs (hs:s.size<=maxLen) (h:jE w g s i) (hH:Handle w) (hE:jU s i < 0):Calls prog 226 #[.pointer (some ⟨g,0,none⟩)] w λe w'=>e=Yh i/\aI w w':=by
 have HC:=Hq (λw1 h=>xY s i hs w1 h);have HG:=Hq (λw1 h=>Wi g s i (jU s i) w1 h hE);open avP in exact Vk
theorem JM (hs:s.size<=maxLen) (h:jE w g s i) (hH:Handle w) (hE:0<=jU s i):Calls prog 226 #[.pointer (some ⟨g,0,none⟩)] w λe w'=>e= .returned (.int .i64 (uw s i))/\jE w' g s (jU s i)/\dR g w w':=by
 have HC:=Hq (λw1 h=>xY s i hs w1 h);have HG:=Hq (λw1 h=>Qr g s i (jU s i) w1 h hE);open avN in exact Vk
theorem JN (hs:s.size<=maxLen) (h:jE w g s i) (hH:Handle w) (hE:jf s i < 0):Calls prog 227 #[.pointer (some ⟨g,0,none⟩)] w λe w'=>e=Yh i/\aI w w':=by
 have HC:=Hq (λw1 h=>Lj s i hs w1 h);have HG:=Hq (λw1 h=>Wi g s i (jf s i) w1 h hE);open avM in exact Vk
theorem uy (hs:s.size<=maxLen) (h:jE w g s i) (hH:Handle w) (hE:0<=jf s i):Calls prog 227 #[.pointer (some ⟨g,0,none⟩)] w λe w'=>e= .returned (.string (jW s i))/\jE w' g s (jf s i)/\dR g w w':=by
 have HC:=Hq (λw1 h=>Lj s i hs w1 h);have HG:=Hq (λw1 h=>Qr g s i (jf s i) w1 h hE);open avL in exact Vk
theorem Cw {w:World} {g:Nat} (h:dR g w0 w):dR g w0 (((((((w.setCell ⟨w0.heap.size,0,none⟩ b0).setCell ⟨w0.heap.size,1,none⟩ b1).setCell ⟨w0.heap.size,2,none⟩ b2).setCell ⟨w0.heap.size,3,none⟩ b3).setCell ⟨w0.heap.size,4,none⟩ b4).setCell ⟨w0.heap.size,5,none⟩ b5).setCell ⟨w0.heap.size,6,none⟩ b6):=by
 have hb:=qW (a:=w) (w:=w) (B:=w0.heap.size) (g:=w0.heap.size) (b0:=b0) (b1:=b1) (b2:=b2) (b3:=b3) (b4:=b4) (b5:=b5) (b6:=b6) (Below.refl _ _) (Nat.le_refl _);exact⟨hb.os.trans h.os,hb.tape.trans h.tape,hb.output.trans h.output,Nat.le_trans h.size hb.size,λk hk hg=>(hb.block k hk).trans (h.block k hk hg)⟩
theorem Ac {w:World} {h g:Nat} {o:Option Obj} (hne:g≠h) (e:w.heap[g]?=o):(((((((w.setCell ⟨h,0,none⟩ b0).setCell ⟨h,1,none⟩ b1).setCell ⟨h,2,none⟩ b2).setCell ⟨h,3,none⟩ b3).setCell ⟨h,4,none⟩ b4).setCell ⟨h,5,none⟩ b5).setCell ⟨h,6,none⟩ b6).heap[g]?=o:=
 one_other (one_other (one_other (one_other (one_other (one_other (one_other e hne) hne) hne) hne) hne) hne) hne
theorem Pb {g:Nat} {w:World} (h:Handle w) (hk:dR g w w') (_hg:g < w.heap.size) (hne:g≠0):Handle w':=by
 unfold Handle at h ⊢
 have hlt:0 < w.heap.size:=by
  rcases Nat.lt_or_ge 0 w.heap.size with h'|h'
  .exact h'
  .unfold World.cell? at h;rw [Array.getElem?_eq_none h'] at h;cases h
 rw [<-h];exact World.cell?_of_block (w:=w) (hk.block _ hlt (Ne.symm hne))
theorem Ym (hs:s.size<=maxLen) (h:jE w g s i) (hH:Handle w) (hE:jf s i < 0):Calls prog 228 #[.pointer (some ⟨g,0,none⟩)] w λe w'=>(∃p,e=Yh p)/\dR g w w':=by
 have HT:=Hq (λw1 h h2=>JN g s i w1 hs h h2 hE);have H:=Hq (aN h (ay w (.cells (bX 0 0 0 0 0 ⟨#[]⟩ 0) 98)));have HH:=Hq (hH.below (ay w (.cells (bX 0 0 0 0 0 ⟨#[]⟩ 0) 98)));clear h hH hE hs;go_in
 go_wp2_with fail;refine(HT _ H HH).mono ?_;rintro e w1 ⟨rfl,hb1⟩;have HB:=Hq (dR.of_below (g:=g) ((ay w _).trans (hb1.mono Aac)));clear hb1;go_wp2_with fail;exact⟨rfl,⟨_,rfl⟩,HB⟩
theorem Yn (hs:s.size<=maxLen) (hg:g < w.heap.size) (h:jE w g s i) (hH:Handle w) (hE:0<=jf s i) (hb:(jW s i).size=0):Calls prog 228 #[.pointer (some ⟨g,0,none⟩)] w λe w'=>e= .returned (mY (mO (jW s i)))/\jE w' g s (jf s i)/\dR g w w':=by
 have HT:=Hq (λw1 h h2=>uy g s i w1 hs h h2 hE);have H:=Hq (aN h (ay w (.cells (bX 0 0 0 0 0 ⟨#[]⟩ 0) 98)));have HH:=Hq (hH.below (ay w (.cells (bX 0 0 0 0 0 ⟨#[]⟩ 0) 98)));rw [(Jm hb).1];rw [JU hb] at HT;clear h hH hE hs hb;generalize jf s i=E at *;have hg2:w.heap.size≠g:=Aaa
 go_in
 go_wp2_with fail;refine(HT _ H HH).mono ?_;rintro e w1 ⟨rfl,hr1,hk1⟩;have HR:=Hq (hk1.obj (heap_alloc_new w _) hg2);have HK:=Hq ((dR.of_below (ay w _)).trans hk1);have HR1:=Hq hr1;clear hr1 hk1;obtain⟨⟨d0,d1,d2,d3,d4,d5,d6⟩,f0,f1,f2,f3,f4,f5,f6⟩:=eT HR;go_wp2_with fail;refine iH (λW' hW'=>?_);obtain⟨⟨r0,r1,r2,r3,r4,r5,r6⟩,_⟩:=eT (show W'.heap[w.heap.size]?=some (.cells (bX 0 0 0 0 0 ⟨#[]⟩ 0) 98 (0,0)) by rw [hW'];exact sJ HR);have VJ:dR g w W':=by rw [hW'];exact Cw HK
 have hRR:jE W' g s E:=by rw [hW'];exact Ac (Ne.symm hg2) HR1
 exact bodyPost_ret (v:= .agg (bX 0 0 0 0 0 ⟨#[]⟩ 0)) Ado rfl ⟨rfl,hRR,VJ⟩
theorem Yl (hs:s.size<=maxLen) (hg:g < w.heap.size) (hge:g≠0) (h:jE w g s i) (hH:Handle w) (hE:0<=jf s i) (hb:0 < (jW s i).size) (ho:jS (jW s i)=false):Calls prog 228 #[.pointer (some ⟨g,0,none⟩)] w λe w'=>(∃p,e=Yh p)/\dR g w w':=by
 have HT:=Hq (λw1 h h2=>uy g s i w1 hs h h2 hE);have HGM:=Hq (λw1 h=>EM (jW s i) (Nat.le_trans (sD s i) Aai) w1 h);rw [DR ho] at HGM;have HF:=Hq (λw1 h=>Mc g s (jf s i) w1 h);have H:=Hq (aN h (ay w (.cells (bX 0 0 0 0 0 ⟨#[]⟩ 0) 98)));have HH:=Hq hH;have hne:=kC _ hb;clear h hH hE hs hb ho;generalize jf s i=E at *;generalize jW s i=B at *;have hg2:w.heap.size≠g:=Aaa
 go_in
 go_wp2_with fail;refine(HT _ H (HH.below (ay w _))).mono ?_;rintro e w1 ⟨rfl,hr1,hk1⟩;open azi in exact ah0
theorem ac6 (hs:s.size<=maxLen) (hg:g < w.heap.size) (hge:g≠0) (h:jE w g s i) (hH:Handle w) (hE:0<=jf s i) (hb:0 < (jW s i).size) (ho:jS (jW s i)=true):Calls prog 228 #[.pointer (some ⟨g,0,none⟩)] w λe w'=>e= .returned (mY (mO (jW s i)))/\jE w' g s (jf s i)/\dR g w w':=by
 have HT:=Hq (λw1 h h2=>uy g s i w1 hs h h2 hE);have HGM:=Hq (λw1 h=>EM (jW s i) (Nat.le_trans (sD s i) Aai) w1 h);unfold Df at HGM;rw [ho] at HGM;have H:=Hq (aN h (ay w (.cells (bX 0 0 0 0 0 ⟨#[]⟩ 0) 98)));have HH:=Hq hH;have hne:=kC _ hb;clear h hH hE hs hb ho;generalize jf s i=E at *;generalize mO (jW s i)=m at *;generalize jW s i=B at *;obtain⟨mK,mF,mT,mI,mL,mk,mN⟩:=m;have hg2:w.heap.size≠g:=Aaa
 go_in
 go_wp2_with fail;refine(HT _ H (HH.below (ay w _))).mono ?_;rintro e w1 ⟨rfl,hr1,hk1⟩;have HR:=Hq (hk1.obj (heap_alloc_new w _) hg2);open azh in exact ah0
structure OS (w0 W:World) (g o:Nat) (s:ByteArray) (i:Int) (cs:Array Value):Prop where
 rd:jE W g s i
 res:W.heap[w0.heap.size]?=some (.cells (bY 0 0 ⟨#[]⟩ 0 0 0 0 0 0 ⟨#[]⟩ 0) 100 (0,0))
 op:W.heap[o]?=some (.cells cs 100 (0,0))
 keep:dR g w0 W
 lo:w0.heap.size < o
theorem OS.step {g:Nat} {s:ByteArray} {i j:Int} (h:OS w0 W g o s i cs) (hr:jE w' g s j) (hk:dR g W w') (hg:g < w0.heap.size):OS w0 w' g o s j cs:=
 ⟨hr,hk.obj h.res Aaa,hk.obj h.op (by have:=h.lo;omega),h.keep.trans hk,h.lo⟩
theorem OS.below {g:Nat} {s:ByteArray} {i:Int} (h:OS w0 W g o s i cs) (hb:aI W w') (hg:g < w0.heap.size):OS w0 w' g o s i cs:=
 h.step (aN h.rd hb) (dR.of_below hb) hg
theorem dR.setNew {g h i:Nat} {w:World} (k:dR g w0 w) (hh:w0.heap.size<=h):dR g w0 (w.setCell ⟨h,i,none⟩ v):=
 ⟨k.os,k.tape,k.output,by have:=k.size;simpa [World.setCell] using this,λx hx hg=>by
  have hne:x≠h:=Aaa
  rw [Below.heap_setCell _ _ _ _ hne]
  exact k.block x hx hg⟩
theorem OS.set {g:Nat} {s:ByteArray} {i:Int} (h:OS w0 W g o s i cs) (hg:g < w0.heap.size) (k:Nat) (v:Value):OS w0 (W.setCell ⟨o,k,none⟩ v) g o s i (cs.setIfInBounds k v):=by
 have hlo:=h.lo;exact⟨one_other h.rd Aaa,one_other h.res Aaa,blk_set h.op k v,h.keep.setNew Aaa,hlo⟩
theorem OS.tail {g:Nat} {s:ByteArray} {i:Int} {a0 a1 a2 a3 a4 a5 a6 a7 a8 a9 Nq b7 b8 b9 b10:Value} (h:OS w0 W g o s i #[a0,a1,a2,a3,a4,a5,a6,a7,a8,a9,Nq]) (hg:g < w0.heap.size):OS w0 (((((((W.setCell ⟨o,4,none⟩ b4).setCell ⟨o,5,none⟩ b5).setCell ⟨o,6,none⟩ b6).setCell ⟨o,7,none⟩ b7).setCell ⟨o,8,none⟩ b8).setCell ⟨o,9,none⟩ b9).setCell ⟨o,10,none⟩ b10) g o s i #[a0,a1,a2,a3,b4,b5,b6,b7,b8,b9,b10]:=by
 have h4:OS w0 (W.setCell ⟨o,4,none⟩ b4) g o s i #[a0,a1,a2,a3,b4,a5,a6,a7,a8,a9,Nq]:=h.set hg 4 b4;have h5:OS w0 ((W.setCell ⟨o,4,none⟩ b4).setCell ⟨o,5,none⟩ b5) g o s i #[a0,a1,a2,a3,b4,b5,a6,a7,a8,a9,Nq]:=h4.set hg 5 b5;have h6:OS w0 (((W.setCell ⟨o,4,none⟩ b4).setCell ⟨o,5,none⟩ b5).setCell ⟨o,6,none⟩ b6) g o s i #[a0,a1,a2,a3,b4,b5,b6,a7,a8,a9,Nq]:=h5.set hg 6 b6;have h7:OS w0 ((((W.setCell ⟨o,4,none⟩ b4).setCell ⟨o,5,none⟩ b5).setCell ⟨o,6,none⟩ b6).setCell ⟨o,7,none⟩ b7) g o s i #[a0,a1,a2,a3,b4,b5,b6,b7,a8,a9,Nq]:=h6.set hg 7 b7;have h8:OS w0 (((((W.setCell ⟨o,4,none⟩ b4).setCell ⟨o,5,none⟩ b5).setCell ⟨o,6,none⟩ b6).setCell ⟨o,7,none⟩ b7).setCell ⟨o,8,none⟩ b8) g o s i #[a0,a1,a2,a3,b4,b5,b6,b7,b8,a9,Nq]:=h7.set hg 8 b8;have h9:OS w0 ((((((W.setCell ⟨o,4,none⟩ b4).setCell ⟨o,5,none⟩ b5).setCell ⟨o,6,none⟩ b6).setCell ⟨o,7,none⟩ b7).setCell ⟨o,8,none⟩ b8).setCell ⟨o,9,none⟩ b9) g o s i #[a0,a1,a2,a3,b4,b5,b6,b7,b8,b9,Nq]:=h8.set hg 9 b9;have h10:OS w0 (((((((W.setCell ⟨o,4,none⟩ b4).setCell ⟨o,5,none⟩ b5).setCell ⟨o,6,none⟩ b6).setCell ⟨o,7,none⟩ b7).setCell ⟨o,8,none⟩ b8).setCell ⟨o,9,none⟩ b9).setCell ⟨o,10,none⟩ b10) g o s i #[a0,a1,a2,a3,b4,b5,b6,b7,b8,b9,b10]:=h9.set hg 10 b10;exact h10
theorem Handle.keep1 {g:Nat} {w:World} (h:Handle w) (hk:dR g w w') (hg:g < w.heap.size) (hge:g≠0):Handle w':=Pb h hk hg hge
theorem aGD (g:Nat) (s:ByteArray) (w:World) (hs:s.size<=maxLen) (hg:g < w.heap.size) (hge:g≠0) (h:jE w g s 0) (hH:Handle w):Calls prog 200 #[.pointer (some ⟨g,0,none⟩)] w λe w'=>(kN s=true/\e= .returned (jJ (opC s))\/kN s=false/\∃p,e=Yh p)/\dR g w w':=by
 by_cases h0:s.size=0
 .have HK:=Hq (λw1 h=>Yk g s w1 h h0);have H:=Hq (aN h (ay w (.cells (bY 0 0 ⟨#[]⟩ 0 0 0 0 0 0 ⟨#[]⟩ 0) 100)));have hno:kN s=false:=by unfold kN;rw [decide_eq_false Aaa];rfl
  have lI:=Hq hno;clear h hH hno;generalize kN s=OK at *;go_in
  go_wp2_with fail;refine(HK _ H).mono ?_;rintro e w1 ⟨rfl,hb1⟩;have HB:=Hq (dR.of_below (g:=g) ((ay w _).trans (hb1.mono Aac)));clear hb1;go_wp2_with fail;exact⟨rfl,.inr ⟨lI,_,rfl⟩,HB⟩
 have h1:0 < s.size:=Aaa
 have HK:=Hq (λw1 h=>Ud g s w1 h h1);have aDA:=Hq (λw1 h hh hE=>JM g s 1 w1 hs h hh hE);have aDz:=Hq (λw1 h hh hE=>Qs g s 1 w1 hs h hh hE);have aDM:=Hq (λw1 h hh hE=>uy g s (jU s 1) w1 hs h hh hE);have aDL:=Hq (λw1 h hh hE=>JN g s (jU s 1) w1 hs h hh hE);have aDC:Hid (∀w1:World,jE w1 g s (jf s (jU s 1))->Handle w1->0<=JF s->Calls prog 226 #[.pointer (some ⟨g,0,none⟩)] w1 λe w'=>e= .returned (.int .i64 (uw s (jf s (jU s 1))))/\jE w' g s (JF s)/\dR g w1 w'):=λw1 h hh hE=>JM g s (jf s (jU s 1)) w1 hs h hh hE
 have aDB:Hid (∀w1:World,jE w1 g s (jf s (jU s 1))->Handle w1->JF s < 0->Calls prog 226 #[.pointer (some ⟨g,0,none⟩)] w1 λe w'=>e=Yh (jf s (jU s 1))/\aI w1 w'):=λw1 h hh hE=>Qs g s (jf s (jU s 1)) w1 hs h hh hE
 have HM:Hid (∀w1:World,g < w1.heap.size->jE w1 g s (JF s)->Handle w1->Calls prog 228 #[.pointer (some ⟨g,0,none⟩)] w1 λe w'=>((0<=LH s/\qJ s=true)/\e= .returned (mY (mO (AA s)))/\jE w' g s (LH s)\/¬(0<=LH s/\qJ s=true)/\∃p,e=Yh p)/\dR g w1 w'):=by
  intro w1 hg1 h2 h3;by_cases hE:0<=LH s
  .by_cases hb:(AA s).size=0
   .refine(Yn g s (JF s) w1 hs hg1 h2 h3 hE hb).mono ?_;rintro e w' ⟨he,hr,hk⟩;exact⟨.inl ⟨⟨hE,by unfold qJ;rw [decide_eq_true hb];rfl⟩,he,hr⟩,hk⟩
   .cases ho:jS (AA s)
    .refine(Yl g s (JF s) w1 hs hg1 hge h2 h3 hE (by have:(AA s).size≠0:=hb;unfold AA at this;omega) ho).mono ?_;rintro e w' ⟨he,hk⟩;exact⟨.inr ⟨(λhx=>by have h9:=hx.2;unfold qJ at h9;rw [decide_eq_false hb,ho] at h9;cases h9),he⟩,hk⟩
    .refine(ac6 g s (JF s) w1 hs hg1 hge h2 h3 hE (by have:(AA s).size≠0:=hb;unfold AA at this;omega) ho).mono ?_;rintro e w' ⟨he,hr,hk⟩;exact⟨.inl ⟨⟨hE,by unfold qJ;rw [ho];simp⟩,he,hr⟩,hk⟩
  .refine(Ym g s (JF s) w1 hs h2 h3 (by have:¬0<=LH s:=hE;unfold LH at this;omega)).mono ?_;rintro e w' ⟨he,hk⟩;exact⟨.inr ⟨λhx=>hE hx.1,he⟩,hk⟩
 have nW:=Hq (λw1=>XQ (opC s) w1);have HF:=Hq (λw1 h=>Mc g s (LH s) w1 h)
 have HG:Hid (kN s=true↔LH s=s.size/\qJ s=true/\cK (opC s)=true):=by
  show kN s=true↔_
  unfold kN;rw [decide_eq_true h1];simp[and_assoc]
 have HX:Hid (0<=LH s->0<=JF s/\0<=jf s (jU s 1)/\0<=jU s 1):=λhE=>by
  have g3:0<=JF s:=(iQ (s:=s) (i:=JF s) hE).1
  have g2:=(lG (s:=s) (i:=jf s (jU s 1)) g3).1
  exact⟨g3,g2,(iQ (s:=s) (i:=jU s 1) g2).1⟩
 have hC:opC s=⟨s[0].toNat,uw s 1,jW s (jU s 1),uw s (jf s (jU s 1)),mO (AA s)⟩:=by unfold opC;rw [KP h1]
 rw [hC] at nW HG ⊢
 have lI:Hid (¬(0<=LH s/\qJ s=true)->kN s=false):=λhx=>by
  rw [Bool.eq_false_iff]
  intro hy
  have:=HG.1 hy
  exact hx ⟨Aaa,this.2.1⟩
 have HH:=Hq hH;have H:=Hq (aN h (ay w (.cells (bY 0 0 ⟨#[]⟩ 0 0 0 0 0 0 ⟨#[]⟩ 0) 100)));clear h hH hC h0;generalize kN s=OK at *;generalize mO (AA s)=m at *;generalize qJ s=BO at *;open aws in exact ahc
theorem aGA (s:ByteArray) (w:World) (hs:s.size<=maxLen) (hH:Handle w):Calls prog 166 #[.string s] w λe w'=>(kN s=true/\e= .returned (jJ (opC s))\/kN s=false/\∃p,e=Yh p)/\aI w w':=by
 obtain⟨hP,hR,hB⟩:=iA w (.cells (bY 0 0 ⟨#[]⟩ 0 0 0 0 0 0 ⟨#[]⟩ 0) 100) (.cells #[.string s,.int .i64 0] 228)
 have hlt:0 < w.heap.size:=by
  exact aiY
 have HO:=Hq (aGD (w.heap.size+1) s _ hs Aac Aaa hR (hH.below hB));have HP:=Hq hP;have HB:=Hq hB;clear hP hR hB hs hH hlt;generalize opC s=oc at *;obtain⟨K,no,k,n,⟨mK,mF,mT,mI,mL,mk,mN⟩⟩:=oc;go_in
 go_wp2_with fail;refine HO.mono ?_;rintro e w1 ⟨hcase,hk⟩;have HR1:=Hq (hk.obj HP Aaa);have HB1:=Hq (hk.below HB Aaa HB.size);clear hk HO HP HB;rcases hcase with⟨hyes,rfl⟩|⟨hno,p,rfl⟩
 .obtain⟨⟨d0,d1,d2,d3,d4,d5,d6,d7,d8,d9,Zn⟩,f0,f1,f2,f3,f4,f5,f6,f7,f8,f9,f10⟩:=aO HR1;go_wp2_with fail;refine iH (λW' hW'=>?_);obtain⟨⟨r0,r1,r2,r3,r4,r5,r6,r7,r8,r9,Zt⟩,_⟩:=aO (show W'.heap[w.heap.size]?=some (.cells (bY K no k n mK mF mT mI mL mk mN) 100 (0,0)) by rw [hW'];exact lq HR1);have hbb:aI w W':=by rw [hW'];exact iJ HB1 (Nat.le_refl _)
  exact bodyPost_ret (v:= .agg (bY K no k n mK mF mT mI mL mk mN)) (by simp[results,results166,go_sem,r0,r1,r2,r3,r4,r5,r6,r7,r8,r9,Zt]) rfl ⟨.inl ⟨hyes,rfl⟩,hbb⟩
 .go_wp2_with fail;exact⟨rfl,.inr ⟨hno,_,rfl⟩,HB1⟩
abbrev nO (o:gQ):List Value:=[.int .i64 o.K,.int .i64 o.no,.string o.k,.int .i64 o.n,.int .i64 o.m.K,.int .i64 o.m.F,.int .i64 o.m.T,.int .i64 o.m.I,.int .i64 o.m.L,.string o.m.k,.int .i64 o.m.N]
theorem jR (o:gQ):(nO o).length=11:=rfl
theorem OY:∀(o:gQ),∀u∈nO o,u.oneCell'=true:=by
 intro o u hu;simp only[nO,List.mem_cons,List.not_mem_nil,or_false] at hu;rcases hu with rfl|rfl|rfl|rfl|rfl|rfl|rfl|rfl|rfl|rfl|rfl<;>rfl
theorem xU (l:List gQ) (o:gQ):GR.flat nO (l++[o])=GR.flat nO l++nO o:=by rw [GR.flat_append,GR.flat_one]
abbrev Je (w:World) (a:Option Addr) (l:List gQ):Prop:=GR.At nO 11 w a l
theorem Je.eleven {w:World} {a:Option Addr} {l:List gQ} (h:Je w a l) (i:Nat) (hi:i < l.length):∃g off,a=some ⟨g,off,none⟩/\g < w.heap.size/\w.cell? ⟨g,off+i*11,none⟩=some (.int .i64 l[i].K)/\w.cell? ⟨g,off+i*11+1,none⟩=some (.int .i64 l[i].no)/\w.cell? ⟨g,off+i*11+2,none⟩=some (.string l[i].k)/\w.cell? ⟨g,off+i*11+3,none⟩=some (.int .i64 l[i].n)/\w.cell? ⟨g,off+i*11+4,none⟩=some (.int .i64 l[i].m.K)/\w.cell? ⟨g,off+i*11+5,none⟩=some (.int .i64 l[i].m.F)/\w.cell? ⟨g,off+i*11+6,none⟩=some (.int .i64 l[i].m.T)/\w.cell? ⟨g,off+i*11+7,none⟩=some (.int .i64 l[i].m.I)/\w.cell? ⟨g,off+i*11+8,none⟩=some (.int .i64 l[i].m.L)/\w.cell? ⟨g,off+i*11+9,none⟩=some (.string l[i].m.k)/\w.cell? ⟨g,off+i*11+10,none⟩=some (.int .i64 l[i].m.N):=by
 obtain⟨g,off,e,hg,hc⟩:=h i hi;refine⟨g,off,e,hg,?_,?_,?_,?_,?_,?_,?_,?_,?_,?_,?_⟩
 .simpa using hc 0 Aaa
 .simpa [Nat.add_assoc] using hc 1 Aaa
 .simpa [Nat.add_assoc] using hc 2 Aaa
 .simpa [Nat.add_assoc] using hc 3 Aaa
 .simpa [Nat.add_assoc] using hc 4 Aaa
 .simpa [Nat.add_assoc] using hc 5 Aaa
 .simpa [Nat.add_assoc] using hc 6 Aaa
 .simpa [Nat.add_assoc] using hc 7 Aaa
 .simpa [Nat.add_assoc] using hc 8 Aaa
 .simpa [Nat.add_assoc] using hc 9 Aaa
 .simpa [Nat.add_assoc] using hc 10 Aaa
theorem aco:(prog.info? 100).map (λi=>(i.zero,i.size,i.bytes))=some (some (.agg (bY 0 0 ByteArray.empty 0 0 0 0 0 0 ByteArray.empty 0)),11,104):=Aab
theorem aDh {w:World} {c:Nat} (h:w.heap[c]?=some (.cells cs t (0,0))) (i:Nat) (v:Value):(w.setCell ⟨c,i,none⟩ v).heap[c]?=some (.cells (cs.setIfInBounds i v) t (0,0)):=by
 exact Vv
theorem aj1 {w:World} {g:Nat} (h:w.heap[g]?=some (.cells cs t (0,0))) (i:Nat):w.frozen? ⟨g,i,none⟩=false:=by
 unfold World.frozen?;rw [h];simp
theorem YX {w:World} {g:Nat} {v0 v1:Value} (h:w.heap[g]?=some (.cells #[v0,v1] t (0,0))):w.cell? ⟨g,0,none⟩=some v0/\w.cell? ⟨g,1,none⟩=some v1:=by
 have hc:∀i,w.cell? ⟨g,i,none⟩=#[v0,v1][i]?:=λi=>cell_of_row w g i _ t (0,0) h
 exact⟨hc 0,hc 1⟩
structure FS (w0 w:World) (fb g:Nat) (s:ByteArray) (v:Value) (L:List gQ) (a:Nat):Prop where
 keep:dR fb w0 w
 blk:w.heap[fb]?=some (.cells #[v,.int .i64 a] 188 (0,0))
 own:w.ownsRow (g+1) 100 11 v L.length (GR.flat nO L)
 by_:BytesAt w g s
 lo:fb < w0.heap.size
 gl:w0.heap.size<=g/\g < w.heap.size
theorem FS.step {w:World} {g:Nat} {s:ByteArray} (h:FS w0 w fb g s v L a) (hb:aI w w'):FS w0 w' fb g s v L a:=
 ⟨h.keep.trans (dR.of_below hb),aN h.blk hb,own_below h.own hb,h.by_.below h.gl.2 hb,h.lo,h.gl.1,Nat.lt_of_lt_of_le h.gl.2 hb.size⟩
theorem FS.app {w w6:World} {g:Nat} {s:ByteArray} {v':Value} (h:FS w0 w fb g s v L a) (o:gQ) (hown:w6.ownsRow (g+1) 100 11 v' (L.length+1) (GR.flat nO L++nO o)) (hg:w.grownBy w6 v.ownBlock):
 w6.heap[fb]?=some (.cells #[v,.int .i64 a] 188 (0,0))/\∀z:Nat,FS w0 ((w6.setCell ⟨fb,0,none⟩ v').setCell ⟨fb,1,none⟩ (.int .i64 z)) fb g s v' (L++[o]) z:=by
 have hlt:∀x,v.ownBlock=some x->g+1<=x:=λx hx=>(h.own.lt x hx).1
 have hgl:=h.gl;have hlo:=h.lo
 have hb:w6.heap[fb]?=some (.cells #[v,.int .i64 a] 188 (0,0)):=by
  rw [hg.block fb (dG h.blk) (λe=>by have:=hlt fb e.symm;omega)];exact h.blk
 have hbg:w6.heap[g]?=w.heap[g]?:=hg.block g hgl.2 (λe=>by have:=hlt g e.symm;omega)
 have h6:dR fb w0 w6:=⟨hg.os.trans h.keep.os,hg.tape.trans h.keep.tape,hg.output.trans h.keep.output,Nat.le_trans h.keep.size hg.size,λk hk hne=>by
  rw [hg.block k (Nat.lt_of_lt_of_le hk h.keep.size) (λe=>by have:=hlt k e.symm;omega)]
  exact h.keep.block k hk hne⟩
 have hby:BytesAt w6 g s:=λi hi=>(World.cell?_of_block (w:=w) hbg).trans (h.by_ i hi)
 have gr:∀(w1:World) (i:Nat) (u:Value),w1.grownBy (w1.setCell ⟨fb,i,none⟩ u) (some fb):=λw1 i u=>⟨rfl,rfl,rfl,Aar,λk _ hne=>Below.heap_setCell _ _ _ _ (λe=>hne Aao)⟩
 have hne:v'.ownBlock=none\/v'.ownBlock≠some fb:=by
  right
  intro e;have:=(hown.lt fb e).1;omega
 have st:∀(w1:World) (i:Nat) (u:Value),BytesAt w1 g s->BytesAt (w1.setCell ⟨fb,i,none⟩ u) g s:=λw1 i u hw j hj=>(World.cell?_setCell_other _ _ _ _ (by simp<;>omega)).trans (hw j hj)
 refine⟨hb,λz=>⟨(h6.trans (dR.set _)).trans (dR.set _),aDh (aDh hb 0 v') 1 (.int .i64 z),?_,st _ _ _ (st _ _ _ hby),hlo,hgl.1,?_⟩⟩
 .rw [List.length_append,xU];exact(hown.kept (gr _ 0 v') hne).kept (gr _ 1 (.int .i64 z)) hne
 .have:=hg.size;simp[World.setCell];omega
def endOf (w:World) (fb:Nat):Nat:=match w.cell? ⟨fb,1,none⟩ with|some (.int _ z)=>z.toNat|_=>0
theorem FS.endOf {w:World} {g:Nat} {s:ByteArray} (h:FS w0 w fb g s v L a):endOf w fb=a:=by
 unfold Go.Proofs.YtohmklmkjmlpjaaGreatDoor.endOf;rw [(YX h.blk).2];simp
def Found (w w':World) (fb:Nat) (s:ByteArray):Prop:=dR fb w w'/\∃v,w'.heap[fb]?=some (.cells #[v,.int .i64 (gM s).2] 188 (0,0))/\w'.ownsRow (w.heap.size+1) 100 11 v (gM s).1.length (GR.flat nO (gM s).1)
theorem FS.found {w:World} {s:ByteArray} (h:FS w0 w fb w0.heap.size s v L a) (hS:yZ s a L) (hs:Dt s a=false) (hb:aI w w'):Found w0 w' fb s:=by
 have h2:=h.step hb;refine⟨h2.keep,v,?_,?_⟩
 .rw [BP hS hs];exact h2.blk
 .rw [BP hS hs];exact h2.own
theorem acT {s:ByteArray} (h:¬SL s a):Dt s a=false/\Gw s a= -1:=by
 unfold Dt Gw;rw [decide_eq_false h,if_neg h];exact⟨rfl,rfl⟩
theorem readAll (fb:Nat) (s:ByteArray) (hs:s.size<=60000) (w:World) (hfb:fb < w.heap.size) (hne:fb≠0) (hf:w.heap[fb]?=some (.cells #[.slice none 0 0,.int .i64 0] 188 (0,0))) (hH:Handle w):
 Calls prog 136 #[.pointer (some ⟨fb,0,none⟩),.string s] w λe w'=>(e= .returned (.tuple #[])\/∃p,e=Yh p)/\Found w w' fb s:=by
 obtain⟨i0,hi,hz0,hz1,hz2⟩:=info_parts aco;obtain⟨cap,w1,aj3,hcap,hby,hlt1,hbel⟩:=Sz s w;have HF1:=Hq (show FS w w1 fb w.heap.size s (.slice none 0 0) [] 0 from⟨dR.of_below hbel,aN hf hbel,World.ownsRow_nil _ _ _ _,hby,hfb,Nat.le_refl _,hlt1⟩);have HH:=Hq hH;have Ef:=Hq (Cz s hs);clear hbel hby hf hH hlt1;go_in
 go_wp2_with fail;go_loopw [] (λwr=>∃a v L,FS w wr fb w.heap.size s v L a/\yZ s a L) (λwr=>s.size - endOf wr fb)
 case atStart=>exact⟨0,_,[],HF1,Ef⟩
 case round=>
  clear HF1 Ef aj3;obtain⟨a,v,L,hF,hS⟩:=hrel;have hcl:=hF.lo;have hbl:=dG hF.blk;obtain⟨va,vc,hv,_⟩:=GR.own_at (enc:=nO) (sz:=11) (l:=L) jR hF.own;subst hv;obtain⟨c0,c1⟩:=YX hF.blk;have hea:endOf wr fb=a:=hF.endOf;have HF:=Hq hF;have HEA:=Hq hea;have HS:=Hq hS;have ha:=hS.2.1;have HL:=Hq hS.1;clear hF hS hea;by_cases hlt:a < s.size
  case' neg=>
   have hnl:decide ((a:Int) < (s.size:Int))=false:=Aag
   go_wp2_with fail;exact bodyPost_end (v:= .tuple #[]) (by simp[results,results136,go_sem]) rfl ⟨.inl rfl,HF.found HS (Q6 Aaa) (Below.refl _ _)⟩
  have hlI:(a:Int) < (s.size:Int):=Aaa
  have HFA:=Hq (ae1 s hs a ha w.heap.size cap hcap wr HF.by_ HF.gl.2 (HH.keep1 HF.keep hfb hne));by_cases hfa:SL s a
  case' neg=>
   obtain⟨hst,hE⟩:=acT hfa;have HST:=Hq hst;clear hst;rw [hE] at HFA;clear hE hfa;generalize Gj s a=TX at *;go_wp2_with fail;refine HFA.mono ?_;rintro e w2 ⟨rfl,hb2⟩;obtain⟨d0,d1⟩:=YX (HF.step hb2).blk;have HB2:=Hq hb2;clear hb2 c0 c1;go_wp2_with fail;exact⟨rfl,.inr ⟨_,rfl⟩,HF.found HS HST HB2⟩
  have HFB:=Hq hfa
  have hE:Gw s a=((Gw s a).toNat:Nat):=by
   have h1:=hfa.2.1;have:Gw s a=a+4+Ak (tl s a):=if_pos hfa;omega
  have hE2:(Gw s a).toNat<=100000:=by
   have h1:Gw s a=a+4+Ak (tl s a):=if_pos hfa;have h2:=Ue (iP (tl s a)) 0;have h3:=rZ (tl s a);unfold Ak at h1;omega
  have hTX:(Gj s a).size<=1000:=by
   have h1:Gj s a=Du (tl s a):=if_pos hfa;rw [h1];exact FD _ _
  have HO:=Hq (λw1 h=>aGA (Gj s a) w1 (Nat.le_trans hTX Aai) h);have HY:=Hq (show kN (Gj s a)=true->Dt s a=true from λh=>by unfold Dt;rw [decide_eq_true hfa,h];rfl);have HN:=Hq (show kN (Gj s a)=false->Dt s a=false from λh=>by unfold Dt;rw [h,Bool.and_false]);have iG:=Hq (show Dt s a=true->yZ s (Gw s a).toNat (L++[opC (Gj s a)]) from λh=>FJ HS h);have HGT:=Hq (show Dt s a=true->a < (Gw s a).toNat/\(Gw s a).toNat<=s.size from λh=>by obtain⟨_,_,_,h4,h5,_⟩:=sQ h;omega);clear hTX hfa HFB;rw [hE] at HFA;clear hE;generalize (Gw s a).toNat=z at *;generalize kN (Gj s a)=OK at *;generalize hoc:opC (Gj s a)=oc at *;clear hoc;generalize Gj s a=TX at *;obtain⟨K,no,k,n,⟨mK,mF,mT,mI,mL,mk,mN⟩⟩:=oc;go_wp2_with fail;refine HFA.mono ?_;rintro e w2 ⟨rfl,hb2⟩;have HF2:=Hq (HF.step hb2);clear hb2 c0 c1 HFA;go_upto_region 5 with fail;refine wp_at (λW hW=>?_);obtain rfl:=hW;have aG8:=dG HF2.blk;obtain⟨c0,c1⟩:=YX HF2.blk;have y0:=cell_regrown c0;clear c0 c1;refine mG Aab ?_;show vR _ _ _ _ 12 (Array.replicate 12 false) _ _
  open atm in exact aar
theorem Found.step {w w1 w2:World} {s:ByteArray} (h:Found w w1 fb s) (hb:aI w1 w2):Found w w2 fb s:=by
 obtain⟨hk,v,hv,ho⟩:=h;exact⟨hk.trans (dR.of_below hb),v,aN hv hb,own_below ho hb⟩
theorem Ub {w:World} {B B' size n:Nat} {e:TypeId} {xs:List Value} (h:w.ownsRow B e size v n xs) (hB:B'<=B):w.ownsRow B' e size v n xs:=by
 refine⟨h.1,?_⟩;rcases h.2 with hn|⟨g,cap,cur,rfl,hb,rest⟩
 .exact .inl hn
 .exact .inr ⟨g,cap,cur,rfl,Nat.le_trans hB hb,rest⟩
theorem Qt (a fb:Nat) (s:ByteArray) (hs:s.size<=60000) (w:World) (hfb:fb < w.heap.size) (hne:fb≠0) (hf:w.heap[fb]?=some (.cells #[.slice none 0 0,.int .i64 0] 188 (0,0))) (hH:Handle w) (ha:w.cell? ⟨a,0,none⟩=some (.string s)):
 Calls prog 135 #[.pointer (some ⟨fb,0,none⟩),.pointer (some ⟨a,0,none⟩)] w λe w'=>(e= .returned (.tuple #[])\/∃p,e=Yh p)/\Found w w' fb s:=by
 have HR:=Hq (readAll fb s hs w hfb hne hf hH);clear hs hf hH;go_in
 go_wp2_with fail;refine HR.mono ?_;rintro e w1 ⟨hcase,hF⟩;have HF:=Hq hF;clear hF;rcases hcase with rfl|⟨p,rfl⟩
 .go_wp2_with fail;exact bodyPost_end (v:= .tuple #[]) (by simp[results,results135,go_sem]) rfl ⟨.inl rfl,HF⟩
 .go_wp2_with fail;exact⟨rfl,.inr ⟨_,rfl⟩,HF⟩
theorem Ut (a fb:Nat) (s:ByteArray) (hs:s.size<=60000) (w:World) (hfb:fb < w.heap.size) (hne:fb≠0) (hf:w.heap[fb]?=some (.cells #[.slice none 0 0,.int .i64 0] 188 (0,0))) (hH:Handle w) (ha:w.cell? ⟨a,0,none⟩=some (.string s)):
 Calls prog 134 #[.func (.func 135) #[] #[.pointer (some ⟨fb,0,none⟩),.pointer (some ⟨a,0,none⟩)]] w λe w'=>(∃b,e= .returned (.bool b))/\Found w w' fb s:=by
 have HC:=Hq (Qt a fb s hs w hfb hne hf hH ha);clear hs hH ha hf;have hdf:∀(fn:Fn) (first cap:Array Value) (w:World),(Instr.makeFunc fn first cap).run prog w= .ok (.func fn first cap) w:=λ_ _ _ _=>rfl
 go_enter_defers func134,ntmps134
 go_wp2_with fail;refine HC.mono ?_;rintro e w1 ⟨hcase,hF⟩;have HF:=Hq hF;clear hF HC;rcases hcase with rfl|⟨p,rfl⟩
 .go_wp2_with fail;refine leaves_cons (f:=164) (args:=#[]) Aac (by simp[go_sem]) ?_;refine(Sw _).mono ?_;rintro e u' w'' ⟨rfl,rfl,rfl⟩;simp[Leaves,settle,results,results134,go_sem];exact HF
 .go_wp2_with fail;refine leaves_cons (f:=164) (args:=#[]) Aac (by simp[go_sem]) ?_;refine(Xh p [] _).mono ?_;rintro e u' w'' ⟨rfl,rfl,hb⟩;have HF2:=Hq (HF.step hb);clear hb;simp[Leaves,settle,results,results134,go_sem];exact HF2
def kU (w:World) (s:ByteArray) (e:Ending) (w':World):Prop:=∃v,e= .returned (.tuple #[v,.int .i64 (gM s).2])/\w'.ownsRow w.heap.size 100 11 v (gM s).1.length (GR.flat nO (gM s).1)/\aI w w'
theorem kU.step {w w1 w2:World} {s:ByteArray} {e:Ending} (h:kU w s e w1) (hb:aI w1 w2):kU w s e w2:=by
 obtain⟨v,he,ho,hB⟩:=h;exact⟨v,he,own_below ho hb,hB.trans (hb.mono hB.size)⟩
theorem acj (s:ByteArray) (_hs:s.size<=maxLen) (w:World) (hH:Handle w):Calls prog 81 #[.string s] w (kU w s):=by
 by_cases hbig:60000 < s.size
 .have hb1:(60000:Int) < (s.size:Int):=Aaa
  have HP:=Hq (show kU w s (.returned (.tuple #[.slice none 0 0,.int .i64 0])) (w.alloc (.cells #[.string s] 9)) from by
   have e:gM s=([],0):=by unfold gM;rw [if_neg Aaa]
   refine⟨.slice none 0 0,?_,?_,ay w _⟩
   .rw [e];rfl
   .rw [e];exact World.ownsRow_nil _ _ _ _)
  clear hH;go_in
  go_wp2_with fail;exact bodyPost_ret (v:= .tuple #[.slice none 0 0,.int .i64 0]) (by simp[results,results81,go_sem]) rfl HP
 .have hlt:0 < w.heap.size:=by
   exact aiY
  have hb1:¬((60000:Int) < (s.size:Int)):=Aaa
  obtain⟨hA,hF,hB⟩:=iA w (.cells #[.string s] 9) (.cells #[.slice none 0 0,.int .i64 0] 188);have HW:=Hq (Ut w.heap.size (w.heap.size+1) s Aaa _ Aac Aaa hF (hH.below hB) (cell_of_row _ w.heap.size 0 _ 9 (0,0) hA));have HB:=Hq hB;have hsz:((w.alloc (.cells #[.string s] 9)).alloc (.cells #[.slice none 0 0,.int .i64 0] 188)).heap.size=w.heap.size+2:=Aac
  clear hA hF hB hH hlt;have hmf:∀(fn:Fn) (first cap:Array Value) (w:World),(Instr.makeFunc fn first cap).run prog w= .ok (.func fn first cap) w:=λ_ _ _ _=>rfl
  go_in
  go_wp2_with fail;refine HW.mono ?_;rintro e w1 ⟨⟨b,rfl⟩,hk,v,hv,ho⟩;rw [hsz] at ho;have HP:=Hq (show kU w s (.returned (.tuple #[v,.int .i64 (gM s).2])) w1 from⟨v,rfl,Ub ho Aaa,hk.below HB Aaa HB.size⟩);have hwl:=dG hv;obtain⟨c0,c1⟩:=YX hv;clear hv ho hk HW HB
  obtain⟨va,vc,hvv,_⟩:∃a c,v= .slice a (gM s).1.length c/\True:=by
   obtain⟨v2,he,hown,_⟩:=ah HP;simp only[Ending.returned.injEq,Value.tuple.injEq] at he;obtain⟨a2,c2,h2,_⟩:=GR.own_at (enc:=nO) (sz:=11) jR hown;have:v=v2:=by simpa using he
   exact⟨a2,c2,by rw [this,h2],trivial⟩
  subst hvv;generalize (gM s).2=E at *;generalize (gM s).1.length=N at *;go_wp2_with fail;go_quiet (fail);go_wp2_with fail;exact bodyPost_ret (v:= .tuple #[.slice va N vc,.int .i64 E]) (by simp[results,results81,go_sem]) rfl (HP.step ⟨rfl,rfl,rfl,Nat.le_refl _,λ_ _=>rfl⟩)
theorem Jo {w wr:World} {s:ByteArray} (ho:wr.ownsRow w.heap.size 100 11 v L.length (GR.flat nO L)) (hb:aI w wr) (hS:yZ s a L) (hs:Dt s a=false) (hz:aI wr w'):kU w s (.returned (.tuple #[v,.int .i64 a])) w':=by
 have e:=BP hS hs;exact⟨v,Aao,by rw [e];exact own_below ho hz,hb.trans (hz.mono hb.size)⟩
theorem Xq {w wr:World} {s:ByteArray} (ho:wr.ownsRow w.heap.size 100 11 v ([]:List gQ).length (GR.flat nO [])) (hb:aI w wr) (h:60000 < s.size):kU w s (.returned (.tuple #[v,.int .i64 (0:Nat)])) wr:=by
 have e:gM s=([],0):=by unfold gM;rw [if_neg Aaa]
 exact⟨v,Aao,by rw [e];exact ho,hb⟩
theorem QX (s:ByteArray) (hs:s.size<=maxLen) (w:World):Calls prog 19 #[.string s] w (kU w s):=by
 obtain⟨i0,hi,hz0,hz1,hz2⟩:=info_parts aco;have hs2:s.size<=9223372036854775807:=by unfold maxLen at hs;omega
 have HG:=Hq (λi w1=>MQ s i hs w1);clear hs;go_in
 go_wp2_with fail;go_loopw [4,5] (λv at_ wr=>∃(a:Nat) (L:List gQ),at_= .int .i64 a/\wr.ownsRow w.heap.size 100 11 v L.length (GR.flat nO L)/\aI w wr/\((s.size<=60000/\yZ s a L)\/(60000 < s.size/\a=0/\L=[]))) (λ_ at_ _=>s.size - (intOf at_).toNat)
 case atStart=>
  refine⟨0,[],rfl,World.ownsRow_lit _ #[] 0 (Nat.le_refl _) Aae rfl,(Below.refl _ _).alloc (Nat.le_refl _) _,?_⟩;by_cases h:s.size<=60000
  .exact .inl ⟨h,Cz s h⟩
  .exact .inr ⟨Aaa,rfl,rfl⟩
 case round=>
  obtain⟨a,L,rfl,hown,hbel,hcase⟩:=hrel;obtain⟨va,vc,rfl,_⟩:=GR.own_at (enc:=nO) (sz:=11) (l:=L) jR hown;have HOWN:=Hq hown;have cZ:=Hq hbel;clear hown hbel;rcases hcase with⟨hsm,hS⟩|⟨hbig,rfl,rfl⟩
  case' inr=>
   have hb1:decide ((s.size:Int)<=60000)=false:=Aag
   go_wp2_with fail;exact bodyPost_ret (v:= .tuple #[.slice va 0 vc,.int .i64 0]) Acz rfl (Xq HOWN cZ hbig)
  have hb1:decide ((s.size:Int)<=60000)=true:=Aag
  have ha:=hS.2.1;have HS:=Hq hS;clear hS;by_cases h4:a+4 < s.size
  case' neg=>
   have hb2:decide ((4:Int) < (s.size:Int) - (a:Int))=false:=Aag
   have HST:=Hq (Q6 h4);go_wp2_with fail;exact bodyPost_ret (v:= .tuple #[.slice va L.length vc,.int .i64 a]) Acz rfl (Jo HOWN cZ HS HST (Below.refl _ _))
  have hb2:decide ((4:Int) < (s.size:Int) - (a:Int))=true:=Aag
  have h4i:(a:Int)+4 < (s.size:Int):=Aaa
  have hw4:IntKind.i64.wrap ((a:Int)+4)=(a:Int)+4:=IntWalk.i64_in _ ⟨Aaa,Aaa⟩;have hw5:0<=(a:Int)+4/\(a:Int)+4<=(s.size:Int):=Aaa
  have hw6:(a:Int)<=(a:Int)+4:=Aaa
  have hw7:((a:Int)+4).toNat=a+4:=Aaa
  have Gg:=Hq (λw1=>HG ((a:Int)+4) w1);have hTX:=FD s ((a:Int)+4);have hEl:=Ue s ((a:Int)+4);have alr:(jW s ((a:Int)+4)).size<=maxLen:=Nat.le_trans hTX Aai;have Ec:=Hq (λw1=>YI (jW s ((a:Int)+4)) alr w1);have HC:=Hq (λw1=>Ml (jW s ((a:Int)+4)) w1 alr);have e:(65536*(sums (jW s ((a:Int)+4)).data.toList).2+(sums (jW s ((a:Int)+4)).data.toList).1:Int)=(kE (jW s ((a:Int)+4)):Int):=by unfold kE;omega
  rw [e] at HC;have HW:=Hq (λw1=>afm (kE (jW s ((a:Int)+4))) (MX _) w1);have hspec:=adq s a h4;have ZO:=Hq (λh:Dt s a=true=>(show _/\_ from⟨FJ HS h,sQ h⟩));unfold KI at Ec;have HOC:=Hq (show kN (jW s ((a:Int)+4))=true->getOp (jW s ((a:Int)+4))=opC (jW s ((a:Int)+4)) from λh=>by unfold getOp;rw [if_pos h]);clear e hTX alr HG;by_cases hE:jf s ((a:Int)+4) < 0
  case' pos=>
   have HST:=Hq (show Dt s a=false by rw [hspec,decide_eq_false Aaa];rfl);have hd:decide (jf s ((a:Int)+4) < 0)=true:=decide_eq_true hE;clear hspec ZO HOC;generalize jf s ((a:Int)+4)=E at *;generalize mE (kE (jW s ((a:Int)+4)))=bW at *;generalize kE (jW s ((a:Int)+4))=nn at *;generalize kN (jW s ((a:Int)+4))=OK at *;exact aAY
  have hd:decide (jf s ((a:Int)+4) < 0)=false:=decide_eq_false hE;have hd2:decide (0<=jf s ((a:Int)+4))=true:=decide_eq_true Aaa;rw [hd2,Bool.true_and] at hspec;clear hd2;cases hok:kN (jW s ((a:Int)+4))
  case' false=>
   have HST:=Hq (show Dt s a=false by rw [hspec,hok];rfl);rw [hok] at Ec;clear hspec ZO HOC hok;exact ai4
  rw [hok,Bool.true_and] at hspec;rw [hok] at Ec;have hoc:=ah HOC hok;clear HOC hok;by_cases hq:s.extract a (a+4)=mE (kE (jW s ((a:Int)+4)))
  case' neg=>
   have HST:=Hq (show Dt s a=false by rw [hspec,decide_eq_false hq])
   have hqq:((s.extract a (a+4)).toList == (mE (kE (jW s ((a:Int)+4)))).toList)=false:=by
    rw [beq_eq_false_iff_ne];intro h;rw [ByteArray.toList_eq,ByteArray.toList_eq] at h;exact hq (ByteArray.ext (Array.ext' h))
   clear hspec ZO hq hoc;exact ai4
  have hqq:((s.extract a (a+4)).toList == (mE (kE (jW s ((a:Int)+4)))).toList)=true:=by rw [hq];simp
  have hst:Dt s a=true:=by rw [hspec,decide_eq_true hq]
  obtain⟨hN1,_,hf1,hf2,hf3,hf4,_⟩:=ah ZO hst;have hE5:jf s ((a:Int)+4)=((jf s ((a:Int)+4)).toNat:Nat):=Aaa
  have hE6:a < (jf s ((a:Int)+4)).toNat:=Aaa
  have hE7:(jf s ((a:Int)+4)).toNat<=s.size:=Aaa
  rw [hf1,hf2,<-hoc] at hN1;have iG:=Hq hN1;have hd0:¬(((jf s ((a:Int)+4)).toNat:Nat):Int) < 0:=Aaa
  rw [hE5] at Gg;clear hspec ZO hq hst hN1 hf1 hf2 hf3 hf4 hoc hd hE hE5 hEl;have hd:=decide_eq_false hd0;generalize (jf s ((a:Int)+4)).toNat=E at *;generalize mE (kE (jW s ((a:Int)+4)))=bW at *;generalize kE (jW s ((a:Int)+4))=nn at *;open aE3 in exact aAg
end Go.Proofs.YtohmklmkjmlpjaaGreatDoor
