/- Parts. -/
import Derived.Test.YtacgbldlonoaaaaGreatDoorRr12
import Derived.Test.YtacgbldlonoaaaaGreatDoorRr19
import Derived.Test.YtacgbldlonoaaaaGreatDoorRr9
namespace Go.Proofs.YtacgbldlonoaaaaGreatDoor
set_option maxHeartbeats 8000000
set_option maxRecDepth 100000
open Go.RowKit
open Mth
structure dJ (g:Nat) (w w':World):Prop where
 os:w'.os=w.os
 tape:w'.tape=w.tape
 output:w'.output=w.output
 size:w.heap.size<=w'.heap.size
 block:∀k,k < w.heap.size->k≠g->w'.heap[k]?=w.heap[k]?
theorem dJ.of_below {g:Nat} {w w':World} (h:aX w w'):dJ g w w':=⟨h.os,h.tape,h.output,h.size,λk hk _=>h.block k hk⟩
theorem dJ.trans {g:Nat} {a b c:World} (h:dJ g a b) (k:dJ g b c):dJ g a c:=
 ⟨k.os.trans h.os,k.tape.trans h.tape,k.output.trans h.output,Nat.le_trans h.size k.size,λi hi hg=>(k.block i (Nat.lt_of_lt_of_le hi h.size) hg).trans (h.block i hi hg)⟩
theorem dJ.set {g i:Nat} {w:World} (v:Value):dJ g w (w.setCell ⟨g,i,none⟩ v):=⟨rfl,rfl,rfl,Aao,λk _ hg=>Below.heap_setCell _ _ _ _ hg⟩
theorem dJ.below {g B:Nat} {a w w':World} (hb:Below B a w) (h:dJ g w w') (hg:B<=g) (hB:B<=w.heap.size):Below B a w':=
 ⟨h.os.trans hb.os,h.tape.trans hb.tape,h.output.trans hb.output,Nat.le_trans hb.size h.size,λk hk=>(h.block k Aaa Aaa).trans (hb.block k hk)⟩
theorem dJ.obj {g k:Nat} {w w':World} {o:Obj} (h:dJ g w w') (hk:w.heap[k]?=some o) (hne:k≠g):w'.heap[k]?=some o:=by rw [h.block k (cu hk) hne];exact hk
abbrev Ut (p:Int):Ending:= .panicked [{v:= .iface 171 (.agg #[.int .i64 p]),recovered:=false}]
abbrev jm (w:World) (g:Nat) (s:ByteArray) (i:Int):Prop:=w.heap[g]?=some (.cells #[.string s,.int .i64 i] 215 (0,0))
theorem jm.two {w:World} {g:Nat} {s:ByteArray} {i:Int} (h:jm w g s i):w.cell? ⟨g,0,none⟩=some (.string s)/\w.cell? ⟨g,1,none⟩=some (.int .i64 i)/\w.frozen? ⟨g,0,none⟩=false/\w.frozen? ⟨g,1,none⟩=false:=by
 have hf:∀i,w.frozen? ⟨g,i,none⟩=false:=λi=>by unfold World.frozen?;rw [h];simp
 have hc:∀j,w.cell? ⟨g,j,none⟩=#[Value.string s,Value.int .i64 i][j]?:=λj=>cell_of_row w g j _ 215 (0,0) h
 exact⟨hc 0,hc 1,hf 0,hf 1⟩
theorem jm.set {w:World} {g:Nat} {s:ByteArray} {i:Int} (h:jm w g s i) (j:Int):jm (w.setCell ⟨g,1,none⟩ (.int .i64 j)) g s j:=blk_set h 1 (.int .i64 j)
theorem iY (w:World) (n:Nat):Below w.heap.size w (w.drewN n):=⟨rfl,rfl,rfl,Nat.le_refl _,λ_ _=>rfl⟩
theorem JK (g:Nat) (s:ByteArray) (i:Int) (w:World) (h:jm w g s i):Calls Tryz.prog 224 #[.pointer (some ⟨g,0,none⟩)] w λe w'=>e=Ut i/\w=w':=by
 obtain⟨c0,c1,f0,f1⟩:=h.two;clear h;go_enter Tryz.func224,Tryz.ntmps224
 go_wp2_with fail;exact⟨rfl,rfl,rfl⟩
theorem Si (g:Nat) (s:ByteArray) (i n:Int) (w:World) (h:jm w g s i) (hn:n < 0):Calls Tryz.prog 245 #[.pointer (some ⟨g,0,none⟩),.int .i64 n] w λe w'=>e=Ut i/\w=w':=by
 have HF:=Hq (λw1 h=>JK g s i w1 h);have H:=Hq h;clear h;go_enter Tryz.func245,Tryz.ntmps245
 go_wp2_with fail;refine(HF _ H).mono ?_;rintro e w1 ⟨rfl,rfl⟩;go_wp2_with fail;exact⟨rfl,rfl,rfl⟩
theorem Nz (g:Nat) (s:ByteArray) (i n:Int) (w:World) (h:jm w g s i) (hn:0<=n):Calls Tryz.prog 245 #[.pointer (some ⟨g,0,none⟩),.int .i64 n] w λe w'=>e= .returned (.tuple #[])/\w.setCell ⟨g,1,none⟩ (.int .i64 n)=w':=by
 obtain⟨c0,c1,f0,f1⟩:=h.two;have hn2:¬n < 0:=Aaa
 clear h;go_enter Tryz.func245,Tryz.ntmps245
 go_wp2_with fail;exact bodyPost_end (v:= .tuple #[]) (by simp[results,Tryz.results245,go_sem]) rfl ⟨rfl,rfl⟩
theorem Uw (g:Nat) (s:ByteArray) (w:World) (h:jm w g s 0) (hs:s.size=0):Calls Tryz.prog 219 #[.pointer (some ⟨g,0,none⟩)] w λe w'=>e=Ut 0/\aX w w':=by
 have HF:=Hq (λw1 h=>JK g s 0 w1 h);obtain⟨c0,c1,f0,f1⟩:=h.two;have H:=Hq h;have he:((0:Int) == (s.size:Int))=true:=by simp[hs]
 clear h;go_enter Tryz.func219,Tryz.ntmps219
 go_upto_region 1 with fail;go_quiet (fail);go_wp2_with fail;refine(HF _ (aI H (iY w _))).mono ?_;rintro e w1 ⟨rfl,rfl⟩;go_wp2_with fail;exact⟨rfl,rfl,iY w _⟩
theorem Qu (g:Nat) (s:ByteArray) (w:World) (h:jm w g s 0) (hs:0 < s.size):Calls Tryz.prog 219 #[.pointer (some ⟨g,0,none⟩)] w λe w'=>e= .returned (.int .i64 (s[0].toNat:Int))/\jm w' g s 1/\dJ g w w':=by
 obtain⟨c0,c1,f0,f1⟩:=h.two;have H:=Hq h;have he:((0:Int) == (s.size:Int))=false:=Aag
 have he2:¬((0:Int)=(s.size:Int)):=Aaa
 have hi0:(0:Int) < (s.size:Int):=Aaa
 open anT in exact Ro
theorem NA (g:Nat) (s:ByteArray) (i:Int) (w:World) (hs:s.size<=maxLen) (h:jm w g s i) (hH:Handle w) (hE:jK s i < 0):Calls Tryz.prog 220 #[.pointer (some ⟨g,0,none⟩)] w λe w'=>e=Ut i/\aX w w':=by
 have HC:=Hq (λw1 h=>wH s i hs w1 h);have HG:=Hq (λw1 h=>Si g s i (jK s i) w1 h hE);open anO in exact Rn
theorem Ih (g:Nat) (s:ByteArray) (i:Int) (w:World) (hs:s.size<=maxLen) (h:jm w g s i) (hH:Handle w) (hE:0<=jK s i):Calls Tryz.prog 220 #[.pointer (some ⟨g,0,none⟩)] w λe w'=>e= .returned (.int .i64 (sH s i))/\jm w' g s (jK s i)/\dJ g w w':=by
 have HC:=Hq (λw1 h=>wH s i hs w1 h);have HG:=Hq (λw1 h=>Nz g s i (jK s i) w1 h hE);open anN in exact Rn
theorem Ii (g:Nat) (s:ByteArray) (i:Int) (w:World) (hs:s.size<=maxLen) (h:jm w g s i) (hH:Handle w) (hE:iO s i < 0):Calls Tryz.prog 221 #[.pointer (some ⟨g,0,none⟩)] w λe w'=>e=Ut i/\aX w w':=by
 have HC:=Hq (λw1 h=>Ju s i hs w1 h);have HG:=Hq (λw1 h=>Si g s i (iO s i) w1 h hE);open anM in exact Rn
theorem sJ (g:Nat) (s:ByteArray) (i:Int) (w:World) (hs:s.size<=maxLen) (h:jm w g s i) (hH:Handle w) (hE:0<=iO s i):Calls Tryz.prog 221 #[.pointer (some ⟨g,0,none⟩)] w λe w'=>e= .returned (.string (jc s i))/\jm w' g s (iO s i)/\dJ g w w':=by
 have HC:=Hq (λw1 h=>Ju s i hs w1 h);have HG:=Hq (λw1 h=>Nz g s i (iO s i) w1 h hE);open anL in exact Rn
theorem AR {w w0:World} {g:Nat} {b0 b1 b2 b3 b4 b5 b6:Value} (h:dJ g w0 w):dJ g w0 (((((((w.setCell ⟨w0.heap.size,0,none⟩ b0).setCell ⟨w0.heap.size,1,none⟩ b1).setCell ⟨w0.heap.size,2,none⟩ b2).setCell ⟨w0.heap.size,3,none⟩ b3).setCell ⟨w0.heap.size,4,none⟩ b4).setCell ⟨w0.heap.size,5,none⟩ b5).setCell ⟨w0.heap.size,6,none⟩ b6):=by
 have hb:=kQ (a:=w) (w:=w) (B:=w0.heap.size) (g:=w0.heap.size) (b0:=b0) (b1:=b1) (b2:=b2) (b3:=b3) (b4:=b4) (b5:=b5) (b6:=b6) (Below.refl _ _) (Nat.le_refl _);exact⟨hb.os.trans h.os,hb.tape.trans h.tape,hb.output.trans h.output,Nat.le_trans h.size hb.size,λk hk hg=>(hb.block k hk).trans (h.block k hk hg)⟩
theorem yM {w:World} {h g:Nat} {b0 b1 b2 b3 b4 b5 b6:Value} {o:Option Obj} (hne:g≠h) (e:w.heap[g]?=o):(((((((w.setCell ⟨h,0,none⟩ b0).setCell ⟨h,1,none⟩ b1).setCell ⟨h,2,none⟩ b2).setCell ⟨h,3,none⟩ b3).setCell ⟨h,4,none⟩ b4).setCell ⟨h,5,none⟩ b5).setCell ⟨h,6,none⟩ b6).heap[g]?=o:=
 one_other (one_other (one_other (one_other (one_other (one_other (one_other e hne) hne) hne) hne) hne) hne) hne
theorem Me {g:Nat} {w w':World} (h:Handle w) (hk:dJ g w w') (_hg:g < w.heap.size) (hne:g≠5):Handle w':=by
 unfold Handle at h ⊢
 have hlt:5 < w.heap.size:=by
  rcases Nat.lt_or_ge 5 w.heap.size with h'|h'
  .exact h'
  .unfold World.cell? at h;rw [Array.getElem?_eq_none h'] at h;cases h
 rw [<-h];exact World.cell?_of_block (w:=w) (hk.block _ hlt (Ne.symm hne))
theorem Uy (g:Nat) (s:ByteArray) (i:Int) (w:World) (hs:s.size<=maxLen) (h:jm w g s i) (hH:Handle w) (hE:iO s i < 0):Calls Tryz.prog 222 #[.pointer (some ⟨g,0,none⟩)] w λe w'=>(∃p,e=Ut p)/\dJ g w w':=by
 have HT:=Hq (λw1 h h2=>Ii g s i w1 hs h h2 hE);have H:=Hq (aI h (aj w (.cells (bJ 0 0 0 0 0 ⟨#[]⟩ 0) 32)));have HH:=Hq (hH.below (aj w (.cells (bJ 0 0 0 0 0 ⟨#[]⟩ 0) 32)));clear h hH hE hs;go_enter Tryz.func222,Tryz.ntmps222
 go_wp2_with fail;refine(HT _ H HH).mono ?_;rintro e w1 ⟨rfl,hb1⟩;have HB:=Hq (dJ.of_below (g:=g) ((aj w _).trans (hb1.mono Aac)));clear hb1;go_wp2_with fail;exact⟨rfl,⟨_,rfl⟩,HB⟩
theorem Uz (g:Nat) (s:ByteArray) (i:Int) (w:World) (hs:s.size<=maxLen) (hg:g < w.heap.size) (h:jm w g s i) (hH:Handle w) (hE:0<=iO s i) (hb:(jc s i).size=0):Calls Tryz.prog 222 #[.pointer (some ⟨g,0,none⟩)] w λe w'=>e= .returned (nS (lW (jc s i)))/\jm w' g s (iO s i)/\dJ g w w':=by
 have HT:=Hq (λw1 h h2=>sJ g s i w1 hs h h2 hE);have H:=Hq (aI h (aj w (.cells (bJ 0 0 0 0 0 ⟨#[]⟩ 0) 32)));have HH:=Hq (hH.below (aj w (.cells (bJ 0 0 0 0 0 ⟨#[]⟩ 0) 32)));rw [(GQ hb).1];rw [Io hb] at HT;clear h hH hE hs hb;generalize iO s i=E at *;have hg2:w.heap.size≠g:=Aaa
 go_enter Tryz.func222,Tryz.ntmps222
 go_wp2_with fail;refine(HT _ H HH).mono ?_;rintro e w1 ⟨rfl,hr1,hk1⟩;have HR:=Hq (hk1.obj (heap_alloc_new w _) hg2);have HK:=Hq ((dJ.of_below (aj w _)).trans hk1);have HR1:=Hq hr1;clear hr1 hk1;obtain⟨⟨d0,d1,d2,d3,d4,d5,d6⟩,f0,f1,f2,f3,f4,f5,f6⟩:=dG HR;go_wp2_with fail;refine iJ (λW' hW'=>?_);obtain⟨⟨r0,r1,r2,r3,r4,r5,r6⟩,_⟩:=dG (show W'.heap[w.heap.size]?=some (.cells (bJ 0 0 0 0 0 ⟨#[]⟩ 0) 32 (0,0)) by rw [hW'];exact mJ HR);have hKK:dJ g w W':=by rw [hW'];exact AR HK
 have hRR:jm W' g s E:=by rw [hW'];exact yM (Ne.symm hg2) HR1
 exact bodyPost_ret (v:= .agg (bJ 0 0 0 0 0 ⟨#[]⟩ 0)) Adp rfl ⟨rfl,hRR,hKK⟩
theorem Ux (g:Nat) (s:ByteArray) (i:Int) (w:World) (hs:s.size<=maxLen) (hg:g < w.heap.size) (hge:g≠5) (h:jm w g s i) (hH:Handle w) (hE:0<=iO s i) (hb:0 < (jc s i).size) (ho:jH (jc s i)=false):Calls Tryz.prog 222 #[.pointer (some ⟨g,0,none⟩)] w λe w'=>(∃p,e=Ut p)/\dJ g w w':=by
 have HT:=Hq (λw1 h h2=>sJ g s i w1 hs h h2 hE);have HGM:=Hq (λw1 h=>Dl (jc s i) (Nat.le_trans (qY s i) Aah) w1 h);rw [Ch ho] at HGM;have HF:=Hq (λw1 h=>JK g s (iO s i) w1 h);have H:=Hq (aI h (aj w (.cells (bJ 0 0 0 0 0 ⟨#[]⟩ 0) 32)));have HH:=Hq hH;have hne:=jS _ hb;clear h hH hE hs hb ho;generalize iO s i=E at *;generalize jc s i=B at *;have hg2:w.heap.size≠g:=Aaa
 go_enter Tryz.func222,Tryz.ntmps222
 go_wp2_with fail;refine(HT _ H (HH.below (aj w _))).mono ?_;rintro e w1 ⟨rfl,hr1,hk1⟩;open aqp in exact adx
theorem Zo (g:Nat) (s:ByteArray) (i:Int) (w:World) (hs:s.size<=maxLen) (hg:g < w.heap.size) (hge:g≠5) (h:jm w g s i) (hH:Handle w) (hE:0<=iO s i) (hb:0 < (jc s i).size) (ho:jH (jc s i)=true):Calls Tryz.prog 222 #[.pointer (some ⟨g,0,none⟩)] w λe w'=>e= .returned (nS (lW (jc s i)))/\jm w' g s (iO s i)/\dJ g w w':=by
 have HT:=Hq (λw1 h h2=>sJ g s i w1 hs h h2 hE);have HGM:=Hq (λw1 h=>Dl (jc s i) (Nat.le_trans (qY s i) Aah) w1 h);unfold Bz at HGM;rw [ho] at HGM;have H:=Hq (aI h (aj w (.cells (bJ 0 0 0 0 0 ⟨#[]⟩ 0) 32)));have HH:=Hq hH;have hne:=jS _ hb;clear h hH hE hs hb ho;generalize iO s i=E at *;generalize lW (jc s i)=m at *;generalize jc s i=B at *;obtain⟨mK,mF,mT,mI,mL,mk,mN⟩:=m;have hg2:w.heap.size≠g:=Aaa
 go_enter Tryz.func222,Tryz.ntmps222
 go_wp2_with fail;refine(HT _ H (HH.below (aj w _))).mono ?_;rintro e w1 ⟨rfl,hr1,hk1⟩;have HR:=Hq (hk1.obj (heap_alloc_new w _) hg2);open aqo in exact adx
structure OS (w0 W:World) (g o:Nat) (s:ByteArray) (i:Int) (cs:Array Value):Prop where
 rd:jm W g s i
 res:W.heap[w0.heap.size]?=some (.cells (bY 0 0 ⟨#[]⟩ 0 0 0 0 0 0 ⟨#[]⟩ 0) 34 (0,0))
 op:W.heap[o]?=some (.cells cs 34 (0,0))
 keep:dJ g w0 W
 lo:w0.heap.size < o
theorem OS.step {w0 W w':World} {g o:Nat} {s:ByteArray} {i j:Int} {cs:Array Value} (h:OS w0 W g o s i cs) (hr:jm w' g s j) (hk:dJ g W w') (hg:g < w0.heap.size):OS w0 w' g o s j cs:=
 ⟨hr,hk.obj h.res Aaa,hk.obj h.op (by have:=h.lo;omega),h.keep.trans hk,h.lo⟩
theorem OS.below {w0 W w':World} {g o:Nat} {s:ByteArray} {i:Int} {cs:Array Value} (h:OS w0 W g o s i cs) (hb:aX W w') (hg:g < w0.heap.size):OS w0 w' g o s i cs:=
 h.step (aI h.rd hb) (dJ.of_below hb) hg
theorem dJ.setNew {g h i:Nat} {w0 w:World} {v:Value} (k:dJ g w0 w) (hh:w0.heap.size<=h):dJ g w0 (w.setCell ⟨h,i,none⟩ v):=
 ⟨k.os,k.tape,k.output,by have:=k.size;simpa [World.setCell] using this,λx hx hg=>by
  have hne:x≠h:=Aaa
  rw [Below.heap_setCell _ _ _ _ hne]
  exact k.block x hx hg⟩
theorem OS.set {w0 W:World} {g o:Nat} {s:ByteArray} {i:Int} {cs:Array Value} (h:OS w0 W g o s i cs) (hg:g < w0.heap.size) (k:Nat) (v:Value):OS w0 (W.setCell ⟨o,k,none⟩ v) g o s i (cs.setIfInBounds k v):=by
 have hlo:=h.lo;exact⟨one_other h.rd Aaa,one_other h.res Aaa,blk_set h.op k v,h.keep.setNew Aaa,hlo⟩
theorem OS.tail {w0 W:World} {g o:Nat} {s:ByteArray} {i:Int} {a0 a1 a2 a3 a4 a5 a6 a7 a8 a9 Pv b4 b5 b6 b7 b8 b9 b10:Value} (h:OS w0 W g o s i #[a0,a1,a2,a3,a4,a5,a6,a7,a8,a9,Pv]) (hg:g < w0.heap.size):OS w0 (((((((W.setCell ⟨o,4,none⟩ b4).setCell ⟨o,5,none⟩ b5).setCell ⟨o,6,none⟩ b6).setCell ⟨o,7,none⟩ b7).setCell ⟨o,8,none⟩ b8).setCell ⟨o,9,none⟩ b9).setCell ⟨o,10,none⟩ b10) g o s i #[a0,a1,a2,a3,b4,b5,b6,b7,b8,b9,b10]:=by
 have h4:OS w0 (W.setCell ⟨o,4,none⟩ b4) g o s i #[a0,a1,a2,a3,b4,a5,a6,a7,a8,a9,Pv]:=h.set hg 4 b4;have h5:OS w0 ((W.setCell ⟨o,4,none⟩ b4).setCell ⟨o,5,none⟩ b5) g o s i #[a0,a1,a2,a3,b4,b5,a6,a7,a8,a9,Pv]:=h4.set hg 5 b5;have h6:OS w0 (((W.setCell ⟨o,4,none⟩ b4).setCell ⟨o,5,none⟩ b5).setCell ⟨o,6,none⟩ b6) g o s i #[a0,a1,a2,a3,b4,b5,b6,a7,a8,a9,Pv]:=h5.set hg 6 b6;have h7:OS w0 ((((W.setCell ⟨o,4,none⟩ b4).setCell ⟨o,5,none⟩ b5).setCell ⟨o,6,none⟩ b6).setCell ⟨o,7,none⟩ b7) g o s i #[a0,a1,a2,a3,b4,b5,b6,b7,a8,a9,Pv]:=h6.set hg 7 b7;have h8:OS w0 (((((W.setCell ⟨o,4,none⟩ b4).setCell ⟨o,5,none⟩ b5).setCell ⟨o,6,none⟩ b6).setCell ⟨o,7,none⟩ b7).setCell ⟨o,8,none⟩ b8) g o s i #[a0,a1,a2,a3,b4,b5,b6,b7,b8,a9,Pv]:=h7.set hg 8 b8;have h9:OS w0 ((((((W.setCell ⟨o,4,none⟩ b4).setCell ⟨o,5,none⟩ b5).setCell ⟨o,6,none⟩ b6).setCell ⟨o,7,none⟩ b7).setCell ⟨o,8,none⟩ b8).setCell ⟨o,9,none⟩ b9) g o s i #[a0,a1,a2,a3,b4,b5,b6,b7,b8,b9,Pv]:=h8.set hg 9 b9;have h10:OS w0 (((((((W.setCell ⟨o,4,none⟩ b4).setCell ⟨o,5,none⟩ b5).setCell ⟨o,6,none⟩ b6).setCell ⟨o,7,none⟩ b7).setCell ⟨o,8,none⟩ b8).setCell ⟨o,9,none⟩ b9).setCell ⟨o,10,none⟩ b10) g o s i #[a0,a1,a2,a3,b4,b5,b6,b7,b8,b9,b10]:=h9.set hg 10 b10;exact h10
theorem Handle.keep1 {g:Nat} {w w':World} (h:Handle w) (hk:dJ g w w') (hg:g < w.heap.size) (hge:g≠5):Handle w':=Me h hk hg hge
theorem awY (g:Nat) (s:ByteArray) (w:World) (hs:s.size<=maxLen) (hg:g < w.heap.size) (hge:g≠5) (h:jm w g s 0) (hH:Handle w):Calls Tryz.prog 185 #[.pointer (some ⟨g,0,none⟩)] w λe w'=>(j6 s=true/\e= .returned (jB (opC s))\/j6 s=false/\∃p,e=Ut p)/\dJ g w w':=by
 by_cases h0:s.size=0
 .have HK:=Hq (λw1 h=>Uw g s w1 h h0);have H:=Hq (aI h (aj w (.cells (bY 0 0 ⟨#[]⟩ 0 0 0 0 0 0 ⟨#[]⟩ 0) 34)));have hno:j6 s=false:=by unfold j6;rw [decide_eq_false Aaa];rfl
  have jP:=Hq hno;clear h hH hno;generalize j6 s=OK at *;go_enter Tryz.func185,Tryz.ntmps185
  go_wp2_with fail;refine(HK _ H).mono ?_;rintro e w1 ⟨rfl,hb1⟩;have HB:=Hq (dJ.of_below (g:=g) ((aj w _).trans (hb1.mono Aac)));clear hb1;go_wp2_with fail;exact⟨rfl,.inr ⟨jP,_,rfl⟩,HB⟩
 have h1:0 < s.size:=Aaa
 have HK:=Hq (λw1 h=>Qu g s w1 h h1);have at6:=Hq (λw1 h hh hE=>Ih g s 1 w1 hs h hh hE);have atZ:=Hq (λw1 h hh hE=>NA g s 1 w1 hs h hh hE);have auj:=Hq (λw1 h hh hE=>sJ g s (jK s 1) w1 hs h hh hE);have aui:=Hq (λw1 h hh hE=>Ii g s (jK s 1) w1 hs h hh hE);have aua:Hid (∀w1:World,jm w1 g s (iO s (jK s 1))->Handle w1->0<=Hy s->Calls Tryz.prog 220 #[.pointer (some ⟨g,0,none⟩)] w1 λe w'=>e= .returned (.int .i64 (sH s (iO s (jK s 1))))/\jm w' g s (Hy s)/\dJ g w1 w'):=λw1 h hh hE=>Ih g s (iO s (jK s 1)) w1 hs h hh hE
 have at7:Hid (∀w1:World,jm w1 g s (iO s (jK s 1))->Handle w1->Hy s < 0->Calls Tryz.prog 220 #[.pointer (some ⟨g,0,none⟩)] w1 λe w'=>e=Ut (iO s (jK s 1))/\aX w1 w'):=λw1 h hh hE=>NA g s (iO s (jK s 1)) w1 hs h hh hE
 have HM:Hid (∀w1:World,g < w1.heap.size->jm w1 g s (Hy s)->Handle w1->Calls Tryz.prog 222 #[.pointer (some ⟨g,0,none⟩)] w1 λe w'=>((0<=JD s/\pW s=true)/\e= .returned (nS (lW (zh s)))/\jm w' g s (JD s)\/¬(0<=JD s/\pW s=true)/\∃p,e=Ut p)/\dJ g w1 w'):=by
  intro w1 hg1 h2 h3;by_cases hE:0<=JD s
  .by_cases hb:(zh s).size=0
   .refine(Uz g s (Hy s) w1 hs hg1 h2 h3 hE hb).mono ?_;rintro e w' ⟨he,hr,hk⟩;exact⟨.inl ⟨⟨hE,by unfold pW;rw [decide_eq_true hb];rfl⟩,he,hr⟩,hk⟩
   .cases ho:jH (zh s)
    .refine(Ux g s (Hy s) w1 hs hg1 hge h2 h3 hE (by have:(zh s).size≠0:=hb;unfold zh at this;omega) ho).mono ?_;rintro e w' ⟨he,hk⟩;exact⟨.inr ⟨(λhx=>by have h9:=hx.2;unfold pW at h9;rw [decide_eq_false hb,ho] at h9;cases h9),he⟩,hk⟩
    .refine(Zo g s (Hy s) w1 hs hg1 hge h2 h3 hE (by have:(zh s).size≠0:=hb;unfold zh at this;omega) ho).mono ?_;rintro e w' ⟨he,hr,hk⟩;exact⟨.inl ⟨⟨hE,by unfold pW;rw [ho];simp⟩,he,hr⟩,hk⟩
  .refine(Uy g s (Hy s) w1 hs h2 h3 (by have:¬0<=JD s:=hE;unfold JD at this;omega)).mono ?_;rintro e w' ⟨he,hk⟩;exact⟨.inr ⟨λhx=>hE hx.1,he⟩,hk⟩
 have lS:=Hq (λw1=>Uh (opC s) w1);have HF:=Hq (λw1 h=>JK g s (JD s) w1 h)
 have HG:Hid (j6 s=true↔JD s=s.size/\pW s=true/\bV (opC s)=true):=by
  show j6 s=true↔_
  unfold j6;rw [decide_eq_true h1];simp[and_assoc]
 have HX:Hid (0<=JD s->0<=Hy s/\0<=iO s (jK s 1)/\0<=jK s 1):=λhE=>by
  have g3:0<=Hy s:=(iE (s:=s) (i:=Hy s) hE).1
  have g2:=(kN (s:=s) (i:=iO s (jK s 1)) g3).1
  exact⟨g3,g2,(iE (s:=s) (i:=jK s 1) g2).1⟩
 have hC:opC s=⟨s[0].toNat,sH s 1,jc s (jK s 1),sH s (iO s (jK s 1)),lW (zh s)⟩:=by unfold opC;rw [Jg h1]
 rw [hC] at lS HG ⊢
 have jP:Hid (¬(0<=JD s/\pW s=true)->j6 s=false):=λhx=>by
  rw [Bool.eq_false_iff]
  intro hy
  have:=HG.1 hy
  exact hx ⟨Aaa,this.2.1⟩
 have HH:=Hq hH;have H:=Hq (aI h (aj w (.cells (bY 0 0 ⟨#[]⟩ 0 0 0 0 0 0 ⟨#[]⟩ 0) 34)));clear h hH hC h0;generalize j6 s=OK at *;generalize lW (zh s)=m at *;generalize pW s=BO at *;open aoc in exact acO
theorem opIn (s:ByteArray) (w:World) (hs:s.size<=maxLen) (hH:Handle w):Calls Tryz.prog 145 #[.string s] w λe w'=>(j6 s=true/\e= .returned (jB (opC s))\/j6 s=false/\∃p,e=Ut p)/\aX w w':=by
 obtain⟨hP,hR,hB⟩:=iw w (.cells (bY 0 0 ⟨#[]⟩ 0 0 0 0 0 0 ⟨#[]⟩ 0) 34) (.cells #[.string s,.int .i64 0] 215)
 have hlt:5 < w.heap.size:=by
  exact adO
 have HO:=Hq (awY (w.heap.size+1) s _ hs Aac Aaa hR (hH.below hB));have HP:=Hq hP;have HB:=Hq hB;clear hP hR hB hs hH hlt;generalize opC s=oc at *;obtain⟨K,no,k,n,⟨mK,mF,mT,mI,mL,mk,mN⟩⟩:=oc;go_enter Tryz.func145,Tryz.ntmps145
 go_wp2_with fail;refine HO.mono ?_;rintro e w1 ⟨hcase,hk⟩;have HR1:=Hq (hk.obj HP Aaa);have HB1:=Hq (hk.below HB Aaa HB.size);clear hk HO HP HB;rcases hcase with⟨hyes,rfl⟩|⟨hno,p,rfl⟩
 .obtain⟨⟨d0,d1,d2,d3,d4,d5,d6,d7,d8,d9,d10⟩,f0,f1,f2,f3,f4,f5,f6,f7,f8,f9,f10⟩:=aU HR1;go_wp2_with fail;refine iJ (λW' hW'=>?_);obtain⟨⟨r0,r1,r2,r3,r4,r5,r6,r7,r8,r9,Zm⟩,_⟩:=aU (show W'.heap[w.heap.size]?=some (.cells (bY K no k n mK mF mT mI mL mk mN) 34 (0,0)) by rw [hW'];exact lZ HR1);have hbb:aX w W':=by rw [hW'];exact iV HB1 (Nat.le_refl _)
  exact bodyPost_ret (v:= .agg (bY K no k n mK mF mT mI mL mk mN)) (by simp[results,Tryz.results145,go_sem,r0,r1,r2,r3,r4,r5,r6,r7,r8,r9,Zm]) rfl ⟨.inl ⟨hyes,rfl⟩,hbb⟩
 .go_wp2_with fail;exact⟨rfl,.inr ⟨hno,_,rfl⟩,HB1⟩
end Go.Proofs.YtacgbldlonoaaaaGreatDoor
