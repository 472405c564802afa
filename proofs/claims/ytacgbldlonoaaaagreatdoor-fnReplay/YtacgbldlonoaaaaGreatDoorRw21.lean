/- Parts. -/
import Derived.Test.YtacgbldlonoaaaaGreatDoorRwT
import Derived.Test.YtacgbldlonoaaaaGreatDoorRw20
namespace Go.Proofs.YtacgbldlonoaaaaGreatDoor
open Go.Proofs.Tryz
set_option maxHeartbeats 8000000
set_option maxRecDepth 100000
open Go.RowKit
open Mth
variable (g:Nat) (s:ByteArray) (i:Int) (w:World) {w' w0 W:World} {o:Nat} {b4 b5 b6 b0 b1 b2 b3:Value} {cs:Array Value}
structure dS (g:Nat) (w w':World):Prop where
 os:w'.os=w.os
 tape:w'.tape=w.tape
 output:w'.output=w.output
 size:w.heap.size<=w'.heap.size
 block:∀k,k < w.heap.size->k≠g->w'.heap[k]?=w.heap[k]?
theorem dS.of_below {g:Nat} {w:World} (h:aY w w'):dS g w w':=⟨h.os,h.tape,h.output,h.size,λk hk _=>h.block k hk⟩
theorem dS.trans {g:Nat} {a b c:World} (h:dS g a b) (k:dS g b c):dS g a c:=
 ⟨k.os.trans h.os,k.tape.trans h.tape,k.output.trans h.output,Nat.le_trans h.size k.size,λi hi hg=>(k.block i (Nat.lt_of_lt_of_le hi h.size) hg).trans (h.block i hi hg)⟩
theorem dS.set {g i:Nat} {w:World} (v:Value):dS g w (w.setCell ⟨g,i,none⟩ v):=⟨rfl,rfl,rfl,Aas,λk _ hg=>Below.heap_setCell _ _ _ _ hg⟩
theorem dS.below {g B:Nat} {a w:World} (hb:Below B a w) (h:dS g w w') (hg:B<=g) (hB:B<=w.heap.size):Below B a w':=
 ⟨h.os.trans hb.os,h.tape.trans hb.tape,h.output.trans hb.output,Nat.le_trans hb.size h.size,λk hk=>(h.block k Aaa Aaa).trans (hb.block k hk)⟩
theorem dS.obj {g k:Nat} {w:World} {o:Obj} (h:dS g w w') (hk:w.heap[k]?=some o) (hne:k≠g):w'.heap[k]?=some o:=by rw [h.block k (bH hk) hne];exact hk
abbrev XT (p:Int):Ending:= .panicked [{v:= .iface 171 (.agg #[.int .i64 p]),recovered:=false}]
abbrev jW (w:World) (g:Nat) (s:ByteArray) (i:Int):Prop:=w.heap[g]?=some (.cells #[.string s,.int .i64 i] 215 (0,0))
theorem jW.two {w:World} {g:Nat} {s:ByteArray} {i:Int} (h:jW w g s i):w.cell? ⟨g,0,none⟩=some (.string s)/\w.cell? ⟨g,1,none⟩=some (.int .i64 i)/\w.frozen? ⟨g,0,none⟩=false/\w.frozen? ⟨g,1,none⟩=false:=by
 have hf:∀i,w.frozen? ⟨g,i,none⟩=false:=λi=>by unfold World.frozen?;rw [h];simp
 have hc:∀j,w.cell? ⟨g,j,none⟩=#[Value.string s,Value.int .i64 i][j]?:=λj=>cell_of_row w g j _ 215 (0,0) h
 exact⟨hc 0,hc 1,hf 0,hf 1⟩
theorem jW.set {w:World} {g:Nat} {s:ByteArray} {i:Int} (h:jW w g s i) (j:Int):jW (w.setCell ⟨g,1,none⟩ (.int .i64 j)) g s j:=blk_set h 1 (.int .i64 j)
theorem jG (w:World) (n:Nat):Below w.heap.size w (w.drewN n):=⟨rfl,rfl,rfl,Nat.le_refl _,λ_ _=>rfl⟩
theorem MC (h:jW w g s i):Calls prog 224 #[.pointer (some ⟨g,0,none⟩)] w λe w'=>e=XT i/\w=w':=by
 obtain⟨c0,c1,f0,f1⟩:=h.two;clear h;go_in
 go_wp2_with fail;exact⟨rfl,rfl,rfl⟩
theorem VL (g:Nat) (s:ByteArray) (i n:Int) (w:World) (h:jW w g s i) (hn:n < 0):Calls prog 245 #[.pointer (some ⟨g,0,none⟩),.int .i64 n] w λe w'=>e=XT i/\w=w':=by
 have HF:=Hq (λw1 h=>MC g s i w1 h);have H:=Hq h;clear h;go_in
 go_wp2_with fail;refine(HF _ H).mono ?_;rintro e w1 ⟨rfl,rfl⟩;go_wp2_with fail;exact⟨rfl,rfl,rfl⟩
theorem Qu (g:Nat) (s:ByteArray) (i n:Int) (w:World) (h:jW w g s i) (hn:0<=n):Calls prog 245 #[.pointer (some ⟨g,0,none⟩),.int .i64 n] w λe w'=>e= .returned (.tuple #[])/\w.setCell ⟨g,1,none⟩ (.int .i64 n)=w':=by
 obtain⟨c0,c1,f0,f1⟩:=h.two;have hn2:¬n < 0:=Aaa
 clear h;go_in
 go_wp2_with fail;exact bodyPost_end (v:= .tuple #[]) (by simp[results,results245,go_sem]) rfl ⟨rfl,rfl⟩
theorem X9 (g:Nat) (s:ByteArray) (w:World) (h:jW w g s 0) (hs:s.size=0):Calls prog 219 #[.pointer (some ⟨g,0,none⟩)] w λe w'=>e=XT 0/\aY w w':=by
 have HF:=Hq (λw1 h=>MC g s 0 w1 h);obtain⟨c0,c1,f0,f1⟩:=h.two;have H:=Hq h;have he:((0:Int) == (s.size:Int))=true:=by simp[hs]
 clear h;go_in
 go_upto_region 1 with fail;go_quiet (fail);go_wp2_with fail;refine(HF _ (aJ H (jG w _))).mono ?_;rintro e w1 ⟨rfl,rfl⟩;go_wp2_with fail;exact⟨rfl,rfl,jG w _⟩
theorem Ue (g:Nat) (s:ByteArray) (w:World) (h:jW w g s 0) (hs:0 < s.size):Calls prog 219 #[.pointer (some ⟨g,0,none⟩)] w λe w'=>e= .returned (.int .i64 (s[0].toNat:Int))/\jW w' g s 1/\dS g w w':=by
 obtain⟨c0,c1,f0,f1⟩:=h.two;have H:=Hq h;have he:((0:Int) == (s.size:Int))=false:=Aaf
 have he2:¬((0:Int)=(s.size:Int)):=Aaa
 have hi0:(0:Int) < (s.size:Int):=Aaa
 open asv in exact Vi
theorem Qv (hs:s.size<=maxLen) (h:jW w g s i) (hH:Handle w) (hE:iV s i < 0):Calls prog 220 #[.pointer (some ⟨g,0,none⟩)] w λe w'=>e=XT i/\aY w w':=by
 have HC:=Hq (λw1 h=>yx s i hs w1 h);have HG:=Hq (λw1 h=>VL g s i (iV s i) w1 h hE);open asn in exact Vh
theorem Kh (hs:s.size<=maxLen) (h:jW w g s i) (hH:Handle w) (hE:0<=iV s i):Calls prog 220 #[.pointer (some ⟨g,0,none⟩)] w λe w'=>e= .returned (.int .i64 (tF s i))/\jW w' g s (iV s i)/\dS g w w':=by
 have HC:=Hq (λw1 h=>yx s i hs w1 h);have HG:=Hq (λw1 h=>Qu g s i (iV s i) w1 h hE);open asl in exact Vh
theorem Ki (hs:s.size<=maxLen) (h:jW w g s i) (hH:Handle w) (hE:iW s i < 0):Calls prog 221 #[.pointer (some ⟨g,0,none⟩)] w λe w'=>e=XT i/\aY w w':=by
 have HC:=Hq (λw1 h=>LY s i hs w1 h);have HG:=Hq (λw1 h=>VL g s i (iW s i) w1 h hE);open asj in exact Vh
theorem uR (hs:s.size<=maxLen) (h:jW w g s i) (hH:Handle w) (hE:0<=iW s i):Calls prog 221 #[.pointer (some ⟨g,0,none⟩)] w λe w'=>e= .returned (.string (jJ s i))/\jW w' g s (iW s i)/\dS g w w':=by
 have HC:=Hq (λw1 h=>LY s i hs w1 h);have HG:=Hq (λw1 h=>Qu g s i (iW s i) w1 h hE);open asi in exact Vh
theorem Df {w:World} {g:Nat} (h:dS g w0 w):dS g w0 (((((((w.setCell ⟨w0.heap.size,0,none⟩ b0).setCell ⟨w0.heap.size,1,none⟩ b1).setCell ⟨w0.heap.size,2,none⟩ b2).setCell ⟨w0.heap.size,3,none⟩ b3).setCell ⟨w0.heap.size,4,none⟩ b4).setCell ⟨w0.heap.size,5,none⟩ b5).setCell ⟨w0.heap.size,6,none⟩ b6):=by
 have hb:=mG (a:=w) (w:=w) (B:=w0.heap.size) (g:=w0.heap.size) (b0:=b0) (b1:=b1) (b2:=b2) (b3:=b3) (b4:=b4) (b5:=b5) (b6:=b6) (Below.refl _ _) (Nat.le_refl _);exact⟨hb.os.trans h.os,hb.tape.trans h.tape,hb.output.trans h.output,Nat.le_trans h.size hb.size,λk hk hg=>(hb.block k hk).trans (h.block k hk hg)⟩
theorem Av {w:World} {h g:Nat} {o:Option Obj} (hne:g≠h) (e:w.heap[g]?=o):(((((((w.setCell ⟨h,0,none⟩ b0).setCell ⟨h,1,none⟩ b1).setCell ⟨h,2,none⟩ b2).setCell ⟨h,3,none⟩ b3).setCell ⟨h,4,none⟩ b4).setCell ⟨h,5,none⟩ b5).setCell ⟨h,6,none⟩ b6).heap[g]?=o:=
 one_other (one_other (one_other (one_other (one_other (one_other (one_other e hne) hne) hne) hne) hne) hne) hne
theorem Ph {g:Nat} {w:World} (h:Handle w) (hk:dS g w w') (_hg:g < w.heap.size) (hne:g≠5):Handle w':=by
 unfold Handle at h ⊢
 have hlt:5 < w.heap.size:=by
  rcases Nat.lt_or_ge 5 w.heap.size with h'|h'
  .exact h'
  .unfold World.cell? at h;rw [Array.getElem?_eq_none h'] at h;cases h
 rw [<-h];exact World.cell?_of_block (w:=w) (hk.block _ hlt (Ne.symm hne))
theorem Yb (hs:s.size<=maxLen) (h:jW w g s i) (hH:Handle w) (hE:iW s i < 0):Calls prog 222 #[.pointer (some ⟨g,0,none⟩)] w λe w'=>(∃p,e=XT p)/\dS g w w':=by
 have HT:=Hq (λw1 h h2=>Ki g s i w1 hs h h2 hE);have H:=Hq (aJ h (au w (.cells (cK 0 0 0 0 0 ⟨#[]⟩ 0) 32)));have HH:=Hq (hH.below (au w (.cells (cK 0 0 0 0 0 ⟨#[]⟩ 0) 32)));clear h hH hE hs;go_in
 go_wp2_with fail;refine(HT _ H HH).mono ?_;rintro e w1 ⟨rfl,hb1⟩;have HB:=Hq (dS.of_below (g:=g) ((au w _).trans (hb1.mono Aac)));clear hb1;go_wp2_with fail;exact⟨rfl,⟨_,rfl⟩,HB⟩
theorem Yc (hs:s.size<=maxLen) (hg:g < w.heap.size) (h:jW w g s i) (hH:Handle w) (hE:0<=iW s i) (hb:(jJ s i).size=0):Calls prog 222 #[.pointer (some ⟨g,0,none⟩)] w λe w'=>e= .returned (qg (lM (jJ s i)))/\jW w' g s (iW s i)/\dS g w w':=by
 have HT:=Hq (λw1 h h2=>uR g s i w1 hs h h2 hE);have H:=Hq (aJ h (au w (.cells (cK 0 0 0 0 0 ⟨#[]⟩ 0) 32)));have HH:=Hq (hH.below (au w (.cells (cK 0 0 0 0 0 ⟨#[]⟩ 0) 32)));rw [(Cb hb).1];rw [Kn hb] at HT;clear h hH hE hs hb;generalize iW s i=E at *;have hg2:w.heap.size≠g:=Aaa
 go_in
 go_wp2_with fail;refine(HT _ H HH).mono ?_;rintro e w1 ⟨rfl,hr1,hk1⟩;have HR:=Hq (hk1.obj (heap_alloc_new w _) hg2);have HK:=Hq ((dS.of_below (au w _)).trans hk1);have HR1:=Hq hr1;clear hr1 hk1;obtain⟨⟨d0,d1,d2,d3,d4,d5,d6⟩,f0,f1,f2,f3,f4,f5,f6⟩:=dQ HR;go_wp2_with fail;refine iJ (λW' hW'=>?_);obtain⟨⟨r0,r1,r2,r3,r4,r5,r6⟩,_⟩:=dQ (show W'.heap[w.heap.size]?=some (.cells (cK 0 0 0 0 0 ⟨#[]⟩ 0) 32 (0,0)) by rw [hW'];exact ou HR);have hKK:dS g w W':=by rw [hW'];exact Df HK
 have hRR:jW W' g s E:=by rw [hW'];exact Av (Ne.symm hg2) HR1
 exact bodyPost_ret (v:= .agg (cK 0 0 0 0 0 ⟨#[]⟩ 0)) Aeb rfl ⟨rfl,hRR,hKK⟩
theorem Ya (hs:s.size<=maxLen) (hg:g < w.heap.size) (hge:g≠5) (h:jW w g s i) (hH:Handle w) (hE:0<=iW s i) (hb:0 < (jJ s i).size) (ho:jF (jJ s i)=false):Calls prog 222 #[.pointer (some ⟨g,0,none⟩)] w λe w'=>(∃p,e=XT p)/\dS g w w':=by
 have HT:=Hq (λw1 h h2=>uR g s i w1 hs h h2 hE);have HGM:=Hq (λw1 h=>FB (jJ s i) (Nat.le_trans (tN s i) Aah) w1 h);rw [Eo ho] at HGM;have HF:=Hq (λw1 h=>MC g s (iW s i) w1 h);have H:=Hq (aJ h (au w (.cells (cK 0 0 0 0 0 ⟨#[]⟩ 0) 32)));have HH:=Hq hH;have hne:=jT _ hb;clear h hH hE hs hb ho;generalize iW s i=E at *;generalize jJ s i=B at *;have hg2:w.heap.size≠g:=Aaa
 go_in
 go_wp2_with fail;refine(HT _ H (HH.below (au w _))).mono ?_;rintro e w1 ⟨rfl,hr1,hk1⟩;open avo in exact agM
theorem acG (hs:s.size<=maxLen) (hg:g < w.heap.size) (hge:g≠5) (h:jW w g s i) (hH:Handle w) (hE:0<=iW s i) (hb:0 < (jJ s i).size) (ho:jF (jJ s i)=true):Calls prog 222 #[.pointer (some ⟨g,0,none⟩)] w λe w'=>e= .returned (qg (lM (jJ s i)))/\jW w' g s (iW s i)/\dS g w w':=by
 have HT:=Hq (λw1 h h2=>uR g s i w1 hs h h2 hE);have HGM:=Hq (λw1 h=>FB (jJ s i) (Nat.le_trans (tN s i) Aah) w1 h);unfold DV at HGM;rw [ho] at HGM;have H:=Hq (aJ h (au w (.cells (cK 0 0 0 0 0 ⟨#[]⟩ 0) 32)));have HH:=Hq hH;have hne:=jT _ hb;clear h hH hE hs hb ho;generalize iW s i=E at *;generalize lM (jJ s i)=m at *;generalize jJ s i=B at *;obtain⟨mK,mF,mT,mI,mL,mk,mN⟩:=m;have hg2:w.heap.size≠g:=Aaa
 go_in
 go_wp2_with fail;refine(HT _ H (HH.below (au w _))).mono ?_;rintro e w1 ⟨rfl,hr1,hk1⟩;have HR:=Hq (hk1.obj (heap_alloc_new w _) hg2);open avn in exact agM
structure OS (w0 W:World) (g o:Nat) (s:ByteArray) (i:Int) (cs:Array Value):Prop where
 rd:jW W g s i
 res:W.heap[w0.heap.size]?=some (.cells (cu 0 0 ⟨#[]⟩ 0 0 0 0 0 0 ⟨#[]⟩ 0) 34 (0,0))
 op:W.heap[o]?=some (.cells cs 34 (0,0))
 keep:dS g w0 W
 lo:w0.heap.size < o
theorem OS.step {g:Nat} {s:ByteArray} {i j:Int} (h:OS w0 W g o s i cs) (hr:jW w' g s j) (hk:dS g W w') (hg:g < w0.heap.size):OS w0 w' g o s j cs:=
 ⟨hr,hk.obj h.res Aaa,hk.obj h.op (by have:=h.lo;omega),h.keep.trans hk,h.lo⟩
theorem OS.below {g:Nat} {s:ByteArray} {i:Int} (h:OS w0 W g o s i cs) (hb:aY W w') (hg:g < w0.heap.size):OS w0 w' g o s i cs:=
 h.step (aJ h.rd hb) (dS.of_below hb) hg
theorem dS.setNew {g h i:Nat} {w:World} {v:Value} (k:dS g w0 w) (hh:w0.heap.size<=h):dS g w0 (w.setCell ⟨h,i,none⟩ v):=
 ⟨k.os,k.tape,k.output,by have:=k.size;simpa [World.setCell] using this,λx hx hg=>by
  have hne:x≠h:=Aaa
  rw [Below.heap_setCell _ _ _ _ hne]
  exact k.block x hx hg⟩
theorem OS.set {g:Nat} {s:ByteArray} {i:Int} (h:OS w0 W g o s i cs) (hg:g < w0.heap.size) (k:Nat) (v:Value):OS w0 (W.setCell ⟨o,k,none⟩ v) g o s i (cs.setIfInBounds k v):=by
 have hlo:=h.lo;exact⟨one_other h.rd Aaa,one_other h.res Aaa,blk_set h.op k v,h.keep.setNew Aaa,hlo⟩
theorem OS.tail {g:Nat} {s:ByteArray} {i:Int} {a0 a1 a2 a3 a4 a5 a6 a7 a8 a9 Sr b7 b8 b9 b10:Value} (h:OS w0 W g o s i #[a0,a1,a2,a3,a4,a5,a6,a7,a8,a9,Sr]) (hg:g < w0.heap.size):OS w0 (((((((W.setCell ⟨o,4,none⟩ b4).setCell ⟨o,5,none⟩ b5).setCell ⟨o,6,none⟩ b6).setCell ⟨o,7,none⟩ b7).setCell ⟨o,8,none⟩ b8).setCell ⟨o,9,none⟩ b9).setCell ⟨o,10,none⟩ b10) g o s i #[a0,a1,a2,a3,b4,b5,b6,b7,b8,b9,b10]:=by
 have h4:OS w0 (W.setCell ⟨o,4,none⟩ b4) g o s i #[a0,a1,a2,a3,b4,a5,a6,a7,a8,a9,Sr]:=h.set hg 4 b4;have h5:OS w0 ((W.setCell ⟨o,4,none⟩ b4).setCell ⟨o,5,none⟩ b5) g o s i #[a0,a1,a2,a3,b4,b5,a6,a7,a8,a9,Sr]:=h4.set hg 5 b5;have h6:OS w0 (((W.setCell ⟨o,4,none⟩ b4).setCell ⟨o,5,none⟩ b5).setCell ⟨o,6,none⟩ b6) g o s i #[a0,a1,a2,a3,b4,b5,b6,a7,a8,a9,Sr]:=h5.set hg 6 b6;have h7:OS w0 ((((W.setCell ⟨o,4,none⟩ b4).setCell ⟨o,5,none⟩ b5).setCell ⟨o,6,none⟩ b6).setCell ⟨o,7,none⟩ b7) g o s i #[a0,a1,a2,a3,b4,b5,b6,b7,a8,a9,Sr]:=h6.set hg 7 b7;have h8:OS w0 (((((W.setCell ⟨o,4,none⟩ b4).setCell ⟨o,5,none⟩ b5).setCell ⟨o,6,none⟩ b6).setCell ⟨o,7,none⟩ b7).setCell ⟨o,8,none⟩ b8) g o s i #[a0,a1,a2,a3,b4,b5,b6,b7,b8,a9,Sr]:=h7.set hg 8 b8;have h9:OS w0 ((((((W.setCell ⟨o,4,none⟩ b4).setCell ⟨o,5,none⟩ b5).setCell ⟨o,6,none⟩ b6).setCell ⟨o,7,none⟩ b7).setCell ⟨o,8,none⟩ b8).setCell ⟨o,9,none⟩ b9) g o s i #[a0,a1,a2,a3,b4,b5,b6,b7,b8,b9,Sr]:=h8.set hg 9 b9;have h10:OS w0 (((((((W.setCell ⟨o,4,none⟩ b4).setCell ⟨o,5,none⟩ b5).setCell ⟨o,6,none⟩ b6).setCell ⟨o,7,none⟩ b7).setCell ⟨o,8,none⟩ b8).setCell ⟨o,9,none⟩ b9).setCell ⟨o,10,none⟩ b10) g o s i #[a0,a1,a2,a3,b4,b5,b6,b7,b8,b9,b10]:=h9.set hg 10 b10;exact h10
theorem Handle.keep1 {g:Nat} {w:World} (h:Handle w) (hk:dS g w w') (hg:g < w.heap.size) (hge:g≠5):Handle w':=Ph h hk hg hge
theorem aBU (g:Nat) (s:ByteArray) (w:World) (hs:s.size<=maxLen) (hg:g < w.heap.size) (hge:g≠5) (h:jW w g s 0) (hH:Handle w):Calls prog 185 #[.pointer (some ⟨g,0,none⟩)] w λe w'=>(jM s=true/\e= .returned (jX (opC s))\/jM s=false/\∃p,e=XT p)/\dS g w w':=by
 by_cases h0:s.size=0
 .have HK:=Hq (λw1 h=>X9 g s w1 h h0);have H:=Hq (aJ h (au w (.cells (cu 0 0 ⟨#[]⟩ 0 0 0 0 0 0 ⟨#[]⟩ 0) 34)));have hno:jM s=false:=by unfold jM;rw [decide_eq_false Aaa];rfl
  have kS:=Hq hno;clear h hH hno;generalize jM s=OK at *;go_in
  go_wp2_with fail;refine(HK _ H).mono ?_;rintro e w1 ⟨rfl,hb1⟩;have HB:=Hq (dS.of_below (g:=g) ((au w _).trans (hb1.mono Aac)));clear hb1;go_wp2_with fail;exact⟨rfl,.inr ⟨kS,_,rfl⟩,HB⟩
 have h1:0 < s.size:=Aaa
 have HK:=Hq (λw1 h=>Ue g s w1 h h1);have ayN:=Hq (λw1 h hh hE=>Kh g s 1 w1 hs h hh hE);have ayM:=Hq (λw1 h hh hE=>Qv g s 1 w1 hs h hh hE);have aza:=Hq (λw1 h hh hE=>uR g s (iV s 1) w1 hs h hh hE);have ayZ:=Hq (λw1 h hh hE=>Ki g s (iV s 1) w1 hs h hh hE);have ayP:Hid (∀w1:World,jW w1 g s (iW s (iV s 1))->Handle w1->0<=J8 s->Calls prog 220 #[.pointer (some ⟨g,0,none⟩)] w1 λe w'=>e= .returned (.int .i64 (tF s (iW s (iV s 1))))/\jW w' g s (J8 s)/\dS g w1 w'):=λw1 h hh hE=>Kh g s (iW s (iV s 1)) w1 hs h hh hE
 have ayO:Hid (∀w1:World,jW w1 g s (iW s (iV s 1))->Handle w1->J8 s < 0->Calls prog 220 #[.pointer (some ⟨g,0,none⟩)] w1 λe w'=>e=XT (iW s (iV s 1))/\aY w1 w'):=λw1 h hh hE=>Qv g s (iW s (iV s 1)) w1 hs h hh hE
 have HM:Hid (∀w1:World,g < w1.heap.size->jW w1 g s (J8 s)->Handle w1->Calls prog 222 #[.pointer (some ⟨g,0,none⟩)] w1 λe w'=>((0<=J4 s/\pW s=true)/\e= .returned (qg (lM (Ah s)))/\jW w' g s (J4 s)\/¬(0<=J4 s/\pW s=true)/\∃p,e=XT p)/\dS g w1 w'):=by
  intro w1 hg1 h2 h3;by_cases hE:0<=J4 s
  .by_cases hb:(Ah s).size=0
   .refine(Yc g s (J8 s) w1 hs hg1 h2 h3 hE hb).mono ?_;rintro e w' ⟨he,hr,hk⟩;exact⟨.inl ⟨⟨hE,by unfold pW;rw [decide_eq_true hb];rfl⟩,he,hr⟩,hk⟩
   .cases ho:jF (Ah s)
    .refine(Ya g s (J8 s) w1 hs hg1 hge h2 h3 hE (by have:(Ah s).size≠0:=hb;unfold Ah at this;omega) ho).mono ?_;rintro e w' ⟨he,hk⟩;exact⟨.inr ⟨(λhx=>by have h9:=hx.2;unfold pW at h9;rw [decide_eq_false hb,ho] at h9;cases h9),he⟩,hk⟩
    .refine(acG g s (J8 s) w1 hs hg1 hge h2 h3 hE (by have:(Ah s).size≠0:=hb;unfold Ah at this;omega) ho).mono ?_;rintro e w' ⟨he,hr,hk⟩;exact⟨.inl ⟨⟨hE,by unfold pW;rw [ho];simp⟩,he,hr⟩,hk⟩
  .refine(Yb g s (J8 s) w1 hs h2 h3 (by have:¬0<=J4 s:=hE;unfold J4 at this;omega)).mono ?_;rintro e w' ⟨he,hk⟩;exact⟨.inr ⟨λhx=>hE hx.1,he⟩,hk⟩
 have lD:=Hq (λw1=>XB (opC s) w1);have HF:=Hq (λw1 h=>MC g s (J4 s) w1 h)
 have HG:Hid (jM s=true↔J4 s=s.size/\pW s=true/\bq (opC s)=true):=by
  show jM s=true↔_
  unfold jM;rw [decide_eq_true h1];simp[and_assoc]
 have HX:Hid (0<=J4 s->0<=J8 s/\0<=iW s (iV s 1)/\0<=iV s 1):=λhE=>by
  have g3:0<=J8 s:=(iE (s:=s) (i:=J8 s) hE).1
  have g2:=(mE (s:=s) (i:=iW s (iV s 1)) g3).1
  exact⟨g3,g2,(iE (s:=s) (i:=iV s 1) g2).1⟩
 have hC:opC s=⟨s[0].toNat,tF s 1,jJ s (iV s 1),tF s (iW s (iV s 1)),lM (Ah s)⟩:=by unfold opC;rw [Lr h1]
 rw [hC] at lD HG ⊢
 have kS:Hid (¬(0<=J4 s/\pW s=true)->jM s=false):=λhx=>by
  rw [Bool.eq_false_iff]
  intro hy
  have:=HG.1 hy
  exact hx ⟨Aaa,this.2.1⟩
 have HH:=Hq hH;have H:=Hq (aJ h (au w (.cells (cu 0 0 ⟨#[]⟩ 0 0 0 0 0 0 ⟨#[]⟩ 0) 34)));clear h hH hC h0;generalize jM s=OK at *;generalize lM (Ah s)=m at *;generalize pW s=BO at *;open asO in exact af0
theorem aBT (s:ByteArray) (w:World) (hs:s.size<=maxLen) (hH:Handle w):Calls prog 145 #[.string s] w λe w'=>(jM s=true/\e= .returned (jX (opC s))\/jM s=false/\∃p,e=XT p)/\aY w w':=by
 obtain⟨hP,hR,hB⟩:=iO w (.cells (cu 0 0 ⟨#[]⟩ 0 0 0 0 0 0 ⟨#[]⟩ 0) 34) (.cells #[.string s,.int .i64 0] 215)
 have hlt:5 < w.heap.size:=by
  exact ag8
 have HO:=Hq (aBU (w.heap.size+1) s _ hs Aac Aaa hR (hH.below hB));have HP:=Hq hP;have HB:=Hq hB;clear hP hR hB hs hH hlt;generalize opC s=oc at *;obtain⟨K,no,k,n,⟨mK,mF,mT,mI,mL,mk,mN⟩⟩:=oc;go_in
 go_wp2_with fail;refine HO.mono ?_;rintro e w1 ⟨hcase,hk⟩;have HR1:=Hq (hk.obj HP Aaa);have HB1:=Hq (hk.below HB Aaa HB.size);clear hk HO HP HB;rcases hcase with⟨hyes,rfl⟩|⟨hno,p,rfl⟩
 .obtain⟨⟨d0,d1,d2,d3,d4,d5,d6,d7,d8,d9,d10⟩,f0,f1,f2,f3,f4,f5,f6,f7,f8,f9,f10⟩:=aQ HR1;go_wp2_with fail;refine iJ (λW' hW'=>?_);obtain⟨⟨r0,r1,r2,r3,r4,r5,r6,r7,r8,r9,XY⟩,_⟩:=aQ (show W'.heap[w.heap.size]?=some (.cells (cu K no k n mK mF mT mI mL mk mN) 34 (0,0)) by rw [hW'];exact gF HR1);have hbb:aY w W':=by rw [hW'];exact dw HB1 (Nat.le_refl _)
  exact bodyPost_ret (v:= .agg (cu K no k n mK mF mT mI mL mk mN)) (by simp[results,results145,go_sem,r0,r1,r2,r3,r4,r5,r6,r7,r8,r9,XY]) rfl ⟨.inl ⟨hyes,rfl⟩,hbb⟩
 .go_wp2_with fail;exact⟨rfl,.inr ⟨hno,_,rfl⟩,HB1⟩
end Go.Proofs.YtacgbldlonoaaaaGreatDoor
