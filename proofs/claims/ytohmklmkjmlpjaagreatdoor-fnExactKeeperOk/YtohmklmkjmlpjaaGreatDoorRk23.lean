/- Parts. -/
import Derived.Test.YtohmklmkjmlpjaaGreatDoorRk18
namespace Go.Proofs.YtohmklmkjmlpjaaGreatDoor
open Go.Proofs.Tryz
set_option maxHeartbeats 8000000
set_option maxRecDepth 100000
open Go.RowKit
open Mth
variable (g:Nat) (s:ByteArray) (i:Int) (w:World) {w' w0 W:World} {o:Nat} {b4 b5 b6 b0 b1 b2 b3:Value} {cs:Array Value}
structure dR (g:Nat) (w w':World):Prop where
 os:w'.os=w.os
 tape:w'.tape=w.tape
 output:w'.output=w.output
 size:w.heap.size<=w'.heap.size
 block:∀k,k < w.heap.size->k≠g->w'.heap[k]?=w.heap[k]?
theorem dR.of_below {g:Nat} {w:World} (h:aI w w'):dR g w w':=⟨h.os,h.tape,h.output,h.size,λk hk _=>h.block k hk⟩
theorem dR.trans {g:Nat} {a b c:World} (h:dR g a b) (k:dR g b c):dR g a c:=
 ⟨k.os.trans h.os,k.tape.trans h.tape,k.output.trans h.output,Nat.le_trans h.size k.size,λi hi hg=>(k.block i (Nat.lt_of_lt_of_le hi h.size) hg).trans (h.block i hi hg)⟩
theorem dR.set {g i:Nat} {w:World} (v:Value):dR g w (w.setCell ⟨g,i,none⟩ v):=⟨rfl,rfl,rfl,Aaq,λk _ hg=>Below.heap_setCell _ _ _ _ hg⟩
theorem dR.below {g B:Nat} {a w:World} (hb:Below B a w) (h:dR g w w') (hg:B<=g) (hB:B<=w.heap.size):Below B a w':=
 ⟨h.os.trans hb.os,h.tape.trans hb.tape,h.output.trans hb.output,Nat.le_trans hb.size h.size,λk hk=>(h.block k Aaa Aaa).trans (hb.block k hk)⟩
theorem dR.obj {g k:Nat} {w:World} {o:Obj} (h:dR g w w') (hk:w.heap[k]?=some o) (hne:k≠g):w'.heap[k]?=some o:=by rw [h.block k (dD hk) hne];exact hk
abbrev XC (p:Int):Ending:= .panicked [{v:= .iface 211 (.agg #[.int .i64 p]),recovered:=false}]
abbrev jB (w:World) (g:Nat) (s:ByteArray) (i:Int):Prop:=w.heap[g]?=some (.cells #[.string s,.int .i64 i] 228 (0,0))
theorem jB.two {w:World} {g:Nat} {s:ByteArray} {i:Int} (h:jB w g s i):w.cell? ⟨g,0,none⟩=some (.string s)/\w.cell? ⟨g,1,none⟩=some (.int .i64 i)/\w.frozen? ⟨g,0,none⟩=false/\w.frozen? ⟨g,1,none⟩=false:=by
 have hf:∀i,w.frozen? ⟨g,i,none⟩=false:=λi=>by unfold World.frozen?;rw [h];simp
 have hc:∀j,w.cell? ⟨g,j,none⟩=#[Value.string s,Value.int .i64 i][j]?:=λj=>cell_of_row w g j _ 228 (0,0) h
 exact⟨hc 0,hc 1,hf 0,hf 1⟩
theorem jB.set {w:World} {g:Nat} {s:ByteArray} {i:Int} (h:jB w g s i) (j:Int):jB (w.setCell ⟨g,1,none⟩ (.int .i64 j)) g s j:=blk_set h 1 (.int .i64 j)
theorem jl (w:World) (n:Nat):Below w.heap.size w (w.drewN n):=⟨rfl,rfl,rfl,Nat.le_refl _,λ_ _=>rfl⟩
theorem Mc (h:jB w g s i):Calls prog 230 #[.pointer (some ⟨g,0,none⟩)] w λe w'=>e=XC i/\w=w':=by
 obtain⟨c0,c1,f0,f1⟩:=h.two;clear h;go_in
 go_wp2_with fail;exact⟨rfl,rfl,rfl⟩
theorem VD (g:Nat) (s:ByteArray) (i n:Int) (w:World) (h:jB w g s i) (hn:n < 0):Calls prog 255 #[.pointer (some ⟨g,0,none⟩),.int .i64 n] w λe w'=>e=XC i/\w=w':=by
 have HF:=Hq (λw1 h=>Mc g s i w1 h);have H:=Hq h;clear h;go_in
 go_wp2_with fail;refine(HF _ H).mono ?_;rintro e w1 ⟨rfl,rfl⟩;go_wp2_with fail;exact⟨rfl,rfl,rfl⟩
theorem Qf (g:Nat) (s:ByteArray) (i n:Int) (w:World) (h:jB w g s i) (hn:0<=n):Calls prog 255 #[.pointer (some ⟨g,0,none⟩),.int .i64 n] w λe w'=>e= .returned (.tuple #[])/\w.setCell ⟨g,1,none⟩ (.int .i64 n)=w':=by
 obtain⟨c0,c1,f0,f1⟩:=h.two;have hn2:¬n < 0:=Aaa
 clear h;go_in
 go_wp2_with fail;exact bodyPost_end (v:= .tuple #[]) (by simp[results,results255,go_sem]) rfl ⟨rfl,rfl⟩
theorem XF (g:Nat) (s:ByteArray) (w:World) (h:jB w g s 0) (hs:s.size=0):Calls prog 225 #[.pointer (some ⟨g,0,none⟩)] w λe w'=>e=XC 0/\aI w w':=by
 have HF:=Hq (λw1 h=>Mc g s 0 w1 h);obtain⟨c0,c1,f0,f1⟩:=h.two;have H:=Hq h;have he:((0:Int) == (s.size:Int))=true:=by simp[hs]
 clear h;go_in
 go_upto_region 1 with fail;go_quiet (fail);go_wp2_with fail;refine(HF _ (aK H (jl w _))).mono ?_;rintro e w1 ⟨rfl,rfl⟩;go_wp2_with fail;exact⟨rfl,rfl,jl w _⟩
theorem TU (g:Nat) (s:ByteArray) (w:World) (h:jB w g s 0) (hs:0 < s.size):Calls prog 225 #[.pointer (some ⟨g,0,none⟩)] w λe w'=>e= .returned (.int .i64 (s[0].toNat:Int))/\jB w' g s 1/\dR g w w':=by
 obtain⟨c0,c1,f0,f1⟩:=h.two;have H:=Hq h;have he:((0:Int) == (s.size:Int))=false:=Aag
 have he2:¬((0:Int)=(s.size:Int)):=Aaa
 have hi0:(0:Int) < (s.size:Int):=Aaa
 open ash in exact UW
theorem Qg (hs:s.size<=maxLen) (h:jB w g s i) (hH:Handle w) (hE:jS s i < 0):Calls prog 226 #[.pointer (some ⟨g,0,none⟩)] w λe w'=>e=XC i/\aI w w':=by
 have HC:=Hq (λw1 h=>xW s i hs w1 h);have HG:=Hq (λw1 h=>VD g s i (jS s i) w1 h hE);open ase in exact UU
theorem JO (hs:s.size<=maxLen) (h:jB w g s i) (hH:Handle w) (hE:0<=jS s i):Calls prog 226 #[.pointer (some ⟨g,0,none⟩)] w λe w'=>e= .returned (.int .i64 (uo s i))/\jB w' g s (jS s i)/\dR g w w':=by
 have HC:=Hq (λw1 h=>xW s i hs w1 h);have HG:=Hq (λw1 h=>Qf g s i (jS s i) w1 h hE);open asb in exact UU
theorem JQ (hs:s.size<=maxLen) (h:jB w g s i) (hH:Handle w) (hE:je s i < 0):Calls prog 227 #[.pointer (some ⟨g,0,none⟩)] w λe w'=>e=XC i/\aI w w':=by
 have HC:=Hq (λw1 h=>Lj s i hs w1 h);have HG:=Hq (λw1 h=>VD g s i (je s i) w1 h hE);open asa in exact UU
theorem uq (hs:s.size<=maxLen) (h:jB w g s i) (hH:Handle w) (hE:0<=je s i):Calls prog 227 #[.pointer (some ⟨g,0,none⟩)] w λe w'=>e= .returned (.string (jU s i))/\jB w' g s (je s i)/\dR g w w':=by
 have HC:=Hq (λw1 h=>Lj s i hs w1 h);have HG:=Hq (λw1 h=>Qf g s i (je s i) w1 h hE);open ar9 in exact UU
theorem Cn {w:World} {g:Nat} (h:dR g w0 w):dR g w0 (((((((w.setCell ⟨w0.heap.size,0,none⟩ b0).setCell ⟨w0.heap.size,1,none⟩ b1).setCell ⟨w0.heap.size,2,none⟩ b2).setCell ⟨w0.heap.size,3,none⟩ b3).setCell ⟨w0.heap.size,4,none⟩ b4).setCell ⟨w0.heap.size,5,none⟩ b5).setCell ⟨w0.heap.size,6,none⟩ b6):=by
 have hb:=qP (a:=w) (w:=w) (B:=w0.heap.size) (g:=w0.heap.size) (b0:=b0) (b1:=b1) (b2:=b2) (b3:=b3) (b4:=b4) (b5:=b5) (b6:=b6) (Below.refl _ _) (Nat.le_refl _);exact⟨hb.os.trans h.os,hb.tape.trans h.tape,hb.output.trans h.output,Nat.le_trans h.size hb.size,λk hk hg=>(hb.block k hk).trans (h.block k hk hg)⟩
theorem zY {w:World} {h g:Nat} {o:Option Obj} (hne:g≠h) (e:w.heap[g]?=o):(((((((w.setCell ⟨h,0,none⟩ b0).setCell ⟨h,1,none⟩ b1).setCell ⟨h,2,none⟩ b2).setCell ⟨h,3,none⟩ b3).setCell ⟨h,4,none⟩ b4).setCell ⟨h,5,none⟩ b5).setCell ⟨h,6,none⟩ b6).heap[g]?=o:=
 one_other (one_other (one_other (one_other (one_other (one_other (one_other e hne) hne) hne) hne) hne) hne) hne
theorem OV {g:Nat} {w:World} (h:Handle w) (hk:dR g w w') (_hg:g < w.heap.size) (hne:g≠0):Handle w':=by
 unfold Handle at h ⊢
 have hlt:0 < w.heap.size:=by
  rcases Nat.lt_or_ge 0 w.heap.size with h'|h'
  .exact h'
  .unfold World.cell? at h;rw [Array.getElem?_eq_none h'] at h;cases h
 rw [<-h];exact World.cell?_of_block (w:=w) (hk.block _ hlt (Ne.symm hne))
theorem XH (hs:s.size<=maxLen) (h:jB w g s i) (hH:Handle w) (hE:je s i < 0):Calls prog 228 #[.pointer (some ⟨g,0,none⟩)] w λe w'=>(∃p,e=XC p)/\dR g w w':=by
 have HT:=Hq (λw1 h h2=>JQ g s i w1 hs h h2 hE);have H:=Hq (aK h (ay w (.cells (bV 0 0 0 0 0 ⟨#[]⟩ 0) 98)));have HH:=Hq (hH.below (ay w (.cells (bV 0 0 0 0 0 ⟨#[]⟩ 0) 98)));clear h hH hE hs;go_in
 go_wp2_with fail;refine(HT _ H HH).mono ?_;rintro e w1 ⟨rfl,hb1⟩;have HB:=Hq (dR.of_below (g:=g) ((ay w _).trans (hb1.mono Aac)));clear hb1;go_wp2_with fail;exact⟨rfl,⟨_,rfl⟩,HB⟩
theorem XI (hs:s.size<=maxLen) (hg:g < w.heap.size) (h:jB w g s i) (hH:Handle w) (hE:0<=je s i) (hb:(jU s i).size=0):Calls prog 228 #[.pointer (some ⟨g,0,none⟩)] w λe w'=>e= .returned (nK (mq (jU s i)))/\jB w' g s (je s i)/\dR g w w':=by
 have HT:=Hq (λw1 h h2=>uq g s i w1 hs h h2 hE);have H:=Hq (aK h (ay w (.cells (bV 0 0 0 0 0 ⟨#[]⟩ 0) 98)));have HH:=Hq (hH.below (ay w (.cells (bV 0 0 0 0 0 ⟨#[]⟩ 0) 98)));rw [(Jr hb).1];rw [JW hb] at HT;clear h hH hE hs hb;generalize je s i=E at *;have hg2:w.heap.size≠g:=Aaa
 go_in
 go_wp2_with fail;refine(HT _ H HH).mono ?_;rintro e w1 ⟨rfl,hr1,hk1⟩;have HR:=Hq (hk1.obj (heap_alloc_new w _) hg2);have HK:=Hq ((dR.of_below (ay w _)).trans hk1);have HR1:=Hq hr1;clear hr1 hk1;obtain⟨⟨d0,d1,d2,d3,d4,d5,d6⟩,f0,f1,f2,f3,f4,f5,f6⟩:=eF HR;go_wp2_with fail;refine iB (λW' hW'=>?_);obtain⟨⟨r0,r1,r2,r3,r4,r5,r6⟩,_⟩:=eF (show W'.heap[w.heap.size]?=some (.cells (bV 0 0 0 0 0 ⟨#[]⟩ 0) 98 (0,0)) by rw [hW'];exact sG HR);have Jt:dR g w W':=by rw [hW'];exact Cn HK
 have hRR:jB W' g s E:=by rw [hW'];exact zY (Ne.symm hg2) HR1
 exact bodyPost_ret (v:= .agg (bV 0 0 0 0 0 ⟨#[]⟩ 0)) Adj rfl ⟨rfl,hRR,Jt⟩
theorem XG (hs:s.size<=maxLen) (hg:g < w.heap.size) (hge:g≠0) (h:jB w g s i) (hH:Handle w) (hE:0<=je s i) (hb:0 < (jU s i).size) (ho:jQ (jU s i)=false):Calls prog 228 #[.pointer (some ⟨g,0,none⟩)] w λe w'=>(∃p,e=XC p)/\dR g w w':=by
 have HT:=Hq (λw1 h h2=>uq g s i w1 hs h h2 hE);have HGM:=Hq (λw1 h=>EA (jU s i) (Nat.le_trans (rZ s i) Aai) w1 h);rw [Dw ho] at HGM;have HF:=Hq (λw1 h=>Mc g s (je s i) w1 h);have H:=Hq (aK h (ay w (.cells (bV 0 0 0 0 0 ⟨#[]⟩ 0) 98)));have HH:=Hq hH;have hne:=jY _ hb;clear h hH hE hs hb ho;generalize je s i=E at *;generalize jU s i=B at *;have hg2:w.heap.size≠g:=Aaa
 go_in
 go_wp2_with fail;refine(HT _ H (HH.below (ay w _))).mono ?_;rintro e w1 ⟨rfl,hr1,hk1⟩;open avg in exact agR
theorem acB (hs:s.size<=maxLen) (hg:g < w.heap.size) (hge:g≠0) (h:jB w g s i) (hH:Handle w) (hE:0<=je s i) (hb:0 < (jU s i).size) (ho:jQ (jU s i)=true):Calls prog 228 #[.pointer (some ⟨g,0,none⟩)] w λe w'=>e= .returned (nK (mq (jU s i)))/\jB w' g s (je s i)/\dR g w w':=by
 have HT:=Hq (λw1 h h2=>uq g s i w1 hs h h2 hE);have HGM:=Hq (λw1 h=>EA (jU s i) (Nat.le_trans (rZ s i) Aai) w1 h);unfold CZ at HGM;rw [ho] at HGM;have H:=Hq (aK h (ay w (.cells (bV 0 0 0 0 0 ⟨#[]⟩ 0) 98)));have HH:=Hq hH;have hne:=jY _ hb;clear h hH hE hs hb ho;generalize je s i=E at *;generalize mq (jU s i)=m at *;generalize jU s i=B at *;obtain⟨mK,mF,mT,mI,mL,mk,mN⟩:=m;have hg2:w.heap.size≠g:=Aaa
 go_in
 go_wp2_with fail;refine(HT _ H (HH.below (ay w _))).mono ?_;rintro e w1 ⟨rfl,hr1,hk1⟩;have HR:=Hq (hk1.obj (heap_alloc_new w _) hg2);open avf in exact agR
structure OS (w0 W:World) (g o:Nat) (s:ByteArray) (i:Int) (cs:Array Value):Prop where
 rd:jB W g s i
 res:W.heap[w0.heap.size]?=some (.cells (bZ 0 0 ⟨#[]⟩ 0 0 0 0 0 0 ⟨#[]⟩ 0) 100 (0,0))
 op:W.heap[o]?=some (.cells cs 100 (0,0))
 keep:dR g w0 W
 lo:w0.heap.size < o
theorem OS.step {g:Nat} {s:ByteArray} {i j:Int} (h:OS w0 W g o s i cs) (hr:jB w' g s j) (hk:dR g W w') (hg:g < w0.heap.size):OS w0 w' g o s j cs:=
 ⟨hr,hk.obj h.res Aaa,hk.obj h.op (by have:=h.lo;omega),h.keep.trans hk,h.lo⟩
theorem OS.below {g:Nat} {s:ByteArray} {i:Int} (h:OS w0 W g o s i cs) (hb:aI W w') (hg:g < w0.heap.size):OS w0 w' g o s i cs:=
 h.step (aK h.rd hb) (dR.of_below hb) hg
theorem dR.setNew {g h i:Nat} {w:World} {v:Value} (k:dR g w0 w) (hh:w0.heap.size<=h):dR g w0 (w.setCell ⟨h,i,none⟩ v):=
 ⟨k.os,k.tape,k.output,by have:=k.size;simpa [World.setCell] using this,λx hx hg=>by
  have hne:x≠h:=Aaa
  rw [Below.heap_setCell _ _ _ _ hne]
  exact k.block x hx hg⟩
theorem OS.set {g:Nat} {s:ByteArray} {i:Int} (h:OS w0 W g o s i cs) (hg:g < w0.heap.size) (k:Nat) (v:Value):OS w0 (W.setCell ⟨o,k,none⟩ v) g o s i (cs.setIfInBounds k v):=by
 have hlo:=h.lo;exact⟨one_other h.rd Aaa,one_other h.res Aaa,blk_set h.op k v,h.keep.setNew Aaa,hlo⟩
theorem OS.tail {g:Nat} {s:ByteArray} {i:Int} {a0 a1 a2 a3 a4 a5 a6 a7 a8 a9 Nj b7 b8 b9 b10:Value} (h:OS w0 W g o s i #[a0,a1,a2,a3,a4,a5,a6,a7,a8,a9,Nj]) (hg:g < w0.heap.size):OS w0 (((((((W.setCell ⟨o,4,none⟩ b4).setCell ⟨o,5,none⟩ b5).setCell ⟨o,6,none⟩ b6).setCell ⟨o,7,none⟩ b7).setCell ⟨o,8,none⟩ b8).setCell ⟨o,9,none⟩ b9).setCell ⟨o,10,none⟩ b10) g o s i #[a0,a1,a2,a3,b4,b5,b6,b7,b8,b9,b10]:=by
 have h4:OS w0 (W.setCell ⟨o,4,none⟩ b4) g o s i #[a0,a1,a2,a3,b4,a5,a6,a7,a8,a9,Nj]:=h.set hg 4 b4;have h5:OS w0 ((W.setCell ⟨o,4,none⟩ b4).setCell ⟨o,5,none⟩ b5) g o s i #[a0,a1,a2,a3,b4,b5,a6,a7,a8,a9,Nj]:=h4.set hg 5 b5;have h6:OS w0 (((W.setCell ⟨o,4,none⟩ b4).setCell ⟨o,5,none⟩ b5).setCell ⟨o,6,none⟩ b6) g o s i #[a0,a1,a2,a3,b4,b5,b6,a7,a8,a9,Nj]:=h5.set hg 6 b6;have h7:OS w0 ((((W.setCell ⟨o,4,none⟩ b4).setCell ⟨o,5,none⟩ b5).setCell ⟨o,6,none⟩ b6).setCell ⟨o,7,none⟩ b7) g o s i #[a0,a1,a2,a3,b4,b5,b6,b7,a8,a9,Nj]:=h6.set hg 7 b7;have h8:OS w0 (((((W.setCell ⟨o,4,none⟩ b4).setCell ⟨o,5,none⟩ b5).setCell ⟨o,6,none⟩ b6).setCell ⟨o,7,none⟩ b7).setCell ⟨o,8,none⟩ b8) g o s i #[a0,a1,a2,a3,b4,b5,b6,b7,b8,a9,Nj]:=h7.set hg 8 b8;have h9:OS w0 ((((((W.setCell ⟨o,4,none⟩ b4).setCell ⟨o,5,none⟩ b5).setCell ⟨o,6,none⟩ b6).setCell ⟨o,7,none⟩ b7).setCell ⟨o,8,none⟩ b8).setCell ⟨o,9,none⟩ b9) g o s i #[a0,a1,a2,a3,b4,b5,b6,b7,b8,b9,Nj]:=h8.set hg 9 b9;have h10:OS w0 (((((((W.setCell ⟨o,4,none⟩ b4).setCell ⟨o,5,none⟩ b5).setCell ⟨o,6,none⟩ b6).setCell ⟨o,7,none⟩ b7).setCell ⟨o,8,none⟩ b8).setCell ⟨o,9,none⟩ b9).setCell ⟨o,10,none⟩ b10) g o s i #[a0,a1,a2,a3,b4,b5,b6,b7,b8,b9,b10]:=h9.set hg 10 b10;exact h10
theorem Handle.keep1 {g:Nat} {w:World} (h:Handle w) (hk:dR g w w') (hg:g < w.heap.size) (hge:g≠0):Handle w':=OV h hk hg hge
theorem aCH (g:Nat) (s:ByteArray) (w:World) (hs:s.size<=maxLen) (hg:g < w.heap.size) (hge:g≠0) (h:jB w g s 0) (hH:Handle w):Calls prog 200 #[.pointer (some ⟨g,0,none⟩)] w λe w'=>(kE s=true/\e= .returned (jG (opC s))\/kE s=false/\∃p,e=XC p)/\dR g w w':=by
 by_cases h0:s.size=0
 .have HK:=Hq (λw1 h=>XF g s w1 h h0);have H:=Hq (aK h (ay w (.cells (bZ 0 0 ⟨#[]⟩ 0 0 0 0 0 0 ⟨#[]⟩ 0) 100)));have hno:kE s=false:=by unfold kE;rw [decide_eq_false Aaa];rfl
  have l7:=Hq hno;clear h hH hno;generalize kE s=OK at *;go_in
  go_wp2_with fail;refine(HK _ H).mono ?_;rintro e w1 ⟨rfl,hb1⟩;have HB:=Hq (dR.of_below (g:=g) ((ay w _).trans (hb1.mono Aac)));clear hb1;go_wp2_with fail;exact⟨rfl,.inr ⟨l7,_,rfl⟩,HB⟩
 have h1:0 < s.size:=Aaa
 have HK:=Hq (λw1 h=>TU g s w1 h h1);have azE:=Hq (λw1 h hh hE=>JO g s 1 w1 hs h hh hE);have azD:=Hq (λw1 h hh hE=>Qg g s 1 w1 hs h hh hE);have azR:=Hq (λw1 h hh hE=>uq g s (jS s 1) w1 hs h hh hE);have azQ:=Hq (λw1 h hh hE=>JQ g s (jS s 1) w1 hs h hh hE);have azG:Hid (∀w1:World,jB w1 g s (je s (jS s 1))->Handle w1->0<=JI s->Calls prog 226 #[.pointer (some ⟨g,0,none⟩)] w1 λe w'=>e= .returned (.int .i64 (uo s (je s (jS s 1))))/\jB w' g s (JI s)/\dR g w1 w'):=λw1 h hh hE=>JO g s (je s (jS s 1)) w1 hs h hh hE
 have azF:Hid (∀w1:World,jB w1 g s (je s (jS s 1))->Handle w1->JI s < 0->Calls prog 226 #[.pointer (some ⟨g,0,none⟩)] w1 λe w'=>e=XC (je s (jS s 1))/\aI w1 w'):=λw1 h hh hE=>Qg g s (je s (jS s 1)) w1 hs h hh hE
 have HM:Hid (∀w1:World,g < w1.heap.size->jB w1 g s (JI s)->Handle w1->Calls prog 228 #[.pointer (some ⟨g,0,none⟩)] w1 λe w'=>((0<=LH s/\qD s=true)/\e= .returned (nK (mq (Aq s)))/\jB w' g s (LH s)\/¬(0<=LH s/\qD s=true)/\∃p,e=XC p)/\dR g w1 w'):=by
  intro w1 hg1 h2 h3;by_cases hE:0<=LH s
  .by_cases hb:(Aq s).size=0
   .refine(XI g s (JI s) w1 hs hg1 h2 h3 hE hb).mono ?_;rintro e w' ⟨he,hr,hk⟩;exact⟨.inl ⟨⟨hE,by unfold qD;rw [decide_eq_true hb];rfl⟩,he,hr⟩,hk⟩
   .cases ho:jQ (Aq s)
    .refine(XG g s (JI s) w1 hs hg1 hge h2 h3 hE (by have:(Aq s).size≠0:=hb;unfold Aq at this;omega) ho).mono ?_;rintro e w' ⟨he,hk⟩;exact⟨.inr ⟨(λhx=>by have h9:=hx.2;unfold qD at h9;rw [decide_eq_false hb,ho] at h9;cases h9),he⟩,hk⟩
    .refine(acB g s (JI s) w1 hs hg1 hge h2 h3 hE (by have:(Aq s).size≠0:=hb;unfold Aq at this;omega) ho).mono ?_;rintro e w' ⟨he,hr,hk⟩;exact⟨.inl ⟨⟨hE,by unfold qD;rw [ho];simp⟩,he,hr⟩,hk⟩
  .refine(XH g s (JI s) w1 hs h2 h3 (by have:¬0<=LH s:=hE;unfold LH at this;omega)).mono ?_;rintro e w' ⟨he,hk⟩;exact⟨.inr ⟨λhx=>hE hx.1,he⟩,hk⟩
 have nS:=Hq (λw1=>Xl (opC s) w1);have HF:=Hq (λw1 h=>Mc g s (LH s) w1 h)
 have HG:Hid (kE s=true↔LH s=s.size/\qD s=true/\cu (opC s)=true):=by
  show kE s=true↔_
  unfold kE;rw [decide_eq_true h1];simp[and_assoc]
 have HX:Hid (0<=LH s->0<=JI s/\0<=je s (jS s 1)/\0<=jS s 1):=λhE=>by
  have g3:0<=JI s:=(iQ (s:=s) (i:=JI s) hE).1
  have g2:=(kZ (s:=s) (i:=je s (jS s 1)) g3).1
  exact⟨g3,g2,(iQ (s:=s) (i:=jS s 1) g2).1⟩
 have hC:opC s=⟨s[0].toNat,uo s 1,jU s (jS s 1),uo s (je s (jS s 1)),mq (Aq s)⟩:=by unfold opC;rw [KQ h1]
 rw [hC] at nS HG ⊢
 have l7:Hid (¬(0<=LH s/\qD s=true)->kE s=false):=λhx=>by
  rw [Bool.eq_false_iff]
  intro hy
  have:=HG.1 hy
  exact hx ⟨Aaa,this.2.1⟩
 have HH:=Hq hH;have H:=Hq (aK h (ay w (.cells (bZ 0 0 ⟨#[]⟩ 0 0 0 0 0 0 ⟨#[]⟩ 0) 100)));clear h hH hC h0;generalize kE s=OK at *;generalize mq (Aq s)=m at *;generalize qD s=BO at *;open asP in exact af6
theorem aCE (s:ByteArray) (w:World) (hs:s.size<=maxLen) (hH:Handle w):Calls prog 166 #[.string s] w λe w'=>(kE s=true/\e= .returned (jG (opC s))\/kE s=false/\∃p,e=XC p)/\aI w w':=by
 obtain⟨hP,hR,hB⟩:=ig w (.cells (bZ 0 0 ⟨#[]⟩ 0 0 0 0 0 0 ⟨#[]⟩ 0) 100) (.cells #[.string s,.int .i64 0] 228)
 have hlt:0 < w.heap.size:=by
  exact ahF
 have HO:=Hq (aCH (w.heap.size+1) s _ hs Aac Aaa hR (hH.below hB));have HP:=Hq hP;have HB:=Hq hB;clear hP hR hB hs hH hlt;generalize opC s=oc at *;obtain⟨K,no,k,n,⟨mK,mF,mT,mI,mL,mk,mN⟩⟩:=oc;go_in
 go_wp2_with fail;refine HO.mono ?_;rintro e w1 ⟨hcase,hk⟩;have HR1:=Hq (hk.obj HP Aaa);have HB1:=Hq (hk.below HB Aaa HB.size);clear hk HO HP HB;rcases hcase with⟨hyes,rfl⟩|⟨hno,p,rfl⟩
 .obtain⟨⟨d0,d1,d2,d3,d4,d5,d6,d7,d8,d9,YI⟩,f0,f1,f2,f3,f4,f5,f6,f7,f8,f9,f10⟩:=aM HR1;go_wp2_with fail;refine iB (λW' hW'=>?_);obtain⟨⟨r0,r1,r2,r3,r4,r5,r6,r7,r8,r9,YQ⟩,_⟩:=aM (show W'.heap[w.heap.size]?=some (.cells (bZ K no k n mK mF mT mI mL mk mN) 100 (0,0)) by rw [hW'];exact kU HR1);have hbb:aI w W':=by rw [hW'];exact iI HB1 (Nat.le_refl _)
  exact bodyPost_ret (v:= .agg (bZ K no k n mK mF mT mI mL mk mN)) (by simp[results,results166,go_sem,r0,r1,r2,r3,r4,r5,r6,r7,r8,r9,YQ]) rfl ⟨.inl ⟨hyes,rfl⟩,hbb⟩
 .go_wp2_with fail;exact⟨rfl,.inr ⟨hno,_,rfl⟩,HB1⟩
end Go.Proofs.YtohmklmkjmlpjaaGreatDoor
