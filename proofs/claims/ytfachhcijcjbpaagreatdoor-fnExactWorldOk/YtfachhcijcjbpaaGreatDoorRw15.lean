/- Parts. -/
import Derived.Test.YtfachhcijcjbpaaGreatDoorRw4
import Derived.Test.YtfachhcijcjbpaaGreatDoorRw14
namespace Go.Proofs.YtfachhcijcjbpaaGreatDoor
open Go.Proofs.Tryz
set_option maxHeartbeats 8000000
set_option maxRecDepth 100000
open Go.RowKit
open Mth
variable (g:Nat) (s:ByteArray) (i:Int) (w:World) {w' w0 W:World} {o:Nat} {b4 b5 b6 b0 b1 b2 b3:Value} {cs:Array Value}
structure dD (g:Nat) (w w':World):Prop where
 os:w'.os=w.os
 tape:w'.tape=w.tape
 output:w'.output=w.output
 size:w.heap.size<=w'.heap.size
 block:∀k,k < w.heap.size->k≠g->w'.heap[k]?=w.heap[k]?
theorem dD.of_below {g:Nat} {w:World} (h:aG w w'):dD g w w':=⟨h.os,h.tape,h.output,h.size,λk hk _=>h.block k hk⟩
theorem dD.trans {g:Nat} {a b c:World} (h:dD g a b) (k:dD g b c):dD g a c:=
 ⟨k.os.trans h.os,k.tape.trans h.tape,k.output.trans h.output,aEA h.size k.size,λi hi hg=>(k.block i (aEH hi h.size) hg).trans (h.block i hi hg)⟩
theorem dD.set {g i:Nat} {w:World} (v:Value):dD g w (w.setCell ⟨g,i,none⟩ v):=⟨rfl,rfl,rfl,Aaq,λk _ hg=>aEU _ _ _ _ hg⟩
theorem dD.below {g B:Nat} {a w:World} (hb:Below B a w) (h:dD g w w') (hg:B<=g) (hB:B<=w.heap.size):Below B a w':=
 ⟨h.os.trans hb.os,h.tape.trans hb.tape,h.output.trans hb.output,aEA hb.size h.size,λk hk=>(h.block k Aaa Aaa).trans (hb.block k hk)⟩
theorem dD.obj {g k:Nat} {w:World} {o:Obj} (h:dD g w w') (hk:w.heap[k]?=some o) (hne:k≠g):w'.heap[k]?=some o:=by rw [h.block k (cu hk) hne];exact hk
abbrev Y7 (p:Int):Ending:= .panicked [{v:= .iface 258 (.agg #[.int .i64 p]),recovered:=false}]
abbrev jv (w:World) (g:Nat) (s:ByteArray) (i:Int):Prop:=w.heap[g]?=some (.cells #[.string s,.int .i64 i] 269 (0,0))
theorem jv.two {w:World} {g:Nat} {s:ByteArray} {i:Int} (h:jv w g s i):w.cell? ⟨g,0,none⟩=some (.string s)/\w.cell? ⟨g,1,none⟩=some (.int .i64 i)/\w.frozen? ⟨g,0,none⟩=false/\w.frozen? ⟨g,1,none⟩=false:=by
 have hf:∀i,w.frozen? ⟨g,i,none⟩=false:=λi=>by unfold World.frozen?;rw [h];simp
 have hc:∀j,w.cell? ⟨g,j,none⟩=#[Value.string s,Value.int .i64 i][j]?:=λj=>aEz w g j _ 269 (0,0) h
 exact⟨hc 0,hc 1,hf 0,hf 1⟩
theorem jv.set {w:World} {g:Nat} {s:ByteArray} {i:Int} (h:jv w g s i) (j:Int):jv (w.setCell ⟨g,1,none⟩ (.int .i64 j)) g s j:=blk_set h 1 (.int .i64 j)
theorem je (w:World) (n:Nat):Below w.heap.size w (w.drewN n):=⟨rfl,rfl,rfl,aEx _,λ_ _=>rfl⟩
theorem Nq (h:jv w g s i):Calls prog 242 #[.pointer (some ⟨g,0,none⟩)] w λe w'=>e=Y7 i/\w=w':=by
 obtain⟨c0,c1,f0,f1⟩:=h.two;clear h;go_in
 go_wp2_with fail;exact⟨rfl,rfl,rfl⟩
theorem Xn (g:Nat) (s:ByteArray) (i n:Int) (w:World) (h:jv w g s i) (hn:n < 0):Calls prog 275 #[.pointer (some ⟨g,0,none⟩),.int .i64 n] w λe w'=>e=Y7 i/\w=w':=by
 have HF:=Hq (λw1 h=>Nq g s i w1 h);have H:=Hq h;clear h;go_in
 go_wp2_with fail;refine(HF _ H).mono ?_;rintro e w1 ⟨rfl,rfl⟩;go_wp2_with fail;exact⟨rfl,rfl,rfl⟩
theorem Q7 (g:Nat) (s:ByteArray) (i n:Int) (w:World) (h:jv w g s i) (hn:0<=n):Calls prog 275 #[.pointer (some ⟨g,0,none⟩),.int .i64 n] w λe w'=>e= .returned (.tuple #[])/\w.setCell ⟨g,1,none⟩ (.int .i64 n)=w':=by
 obtain⟨c0,c1,f0,f1⟩:=h.two;have hn2:¬n < 0:=Aaa
 clear h;go_in
 go_wp2_with fail;exact aGk (v:= .tuple #[]) (by simp[results,results275,go_sem]) rfl ⟨rfl,rfl⟩
theorem Zb (g:Nat) (s:ByteArray) (w:World) (h:jv w g s 0) (hs:s.size=0):Calls prog 237 #[.pointer (some ⟨g,0,none⟩)] w λe w'=>e=Y7 0/\aG w w':=by
 have HF:=Hq (λw1 h=>Nq g s 0 w1 h);obtain⟨c0,c1,f0,f1⟩:=h.two;have H:=Hq h;have he:((0:Int) == (s.size:Int))=true:=by simp[hs]
 clear h;go_in
 go_upto_region 1 with fail;go_quiet (fail);go_wp2_with fail;refine(HF _ (aI H (je w _))).mono ?_;rintro e w1 ⟨rfl,rfl⟩;go_wp2_with fail;exact⟨rfl,rfl,je w _⟩
theorem Vb (g:Nat) (s:ByteArray) (w:World) (h:jv w g s 0) (hs:0 < s.size):Calls prog 237 #[.pointer (some ⟨g,0,none⟩)] w λe w'=>e= .returned (.int .i64 (s[0].toNat:Int))/\jv w' g s 1/\dD g w w':=by
 obtain⟨c0,c1,f0,f1⟩:=h.two;have H:=Hq h;have he:((0:Int) == (s.size:Int))=false:=Aae
 have he2:¬((0:Int)=(s.size:Int)):=Aaa
 have hi0:(0:Int) < (s.size:Int):=Aaa
 open asy in exact Ws
theorem Q8 (hs:s.size<=maxLen) (h:jv w g s i) (hH:Handle w) (hE:jR s i < 0):Calls prog 238 #[.pointer (some ⟨g,0,none⟩)] w λe w'=>e=Y7 i/\aG w w':=by
 have HC:=Hq (λw1 h=>yK s i hs w1 h);have HG:=Hq (λw1 h=>Xn g s i (jR s i) w1 h hE);open asq in exact Wq
theorem KO (hs:s.size<=maxLen) (h:jv w g s i) (hH:Handle w) (hE:0<=jR s i):Calls prog 238 #[.pointer (some ⟨g,0,none⟩)] w λe w'=>e= .returned (.int .i64 (uN s i))/\jv w' g s (jR s i)/\dD g w w':=by
 have HC:=Hq (λw1 h=>yK s i hs w1 h);have HG:=Hq (λw1 h=>Q7 g s i (jR s i) w1 h hE);open aso in exact Wq
theorem KP (hs:s.size<=maxLen) (h:jv w g s i) (hH:Handle w) (hE:iR s i < 0):Calls prog 239 #[.pointer (some ⟨g,0,none⟩)] w λe w'=>e=Y7 i/\aG w w':=by
 have HC:=Hq (λw1 h=>MQ s i hs w1 h);have HG:=Hq (λw1 h=>Xn g s i (iR s i) w1 h hE);open asn in exact Wq
theorem uO (hs:s.size<=maxLen) (h:jv w g s i) (hH:Handle w) (hE:0<=iR s i):Calls prog 239 #[.pointer (some ⟨g,0,none⟩)] w λe w'=>e= .returned (.string (jU s i))/\jv w' g s (iR s i)/\dD g w w':=by
 have HC:=Hq (λw1 h=>MQ s i hs w1 h);have HG:=Hq (λw1 h=>Q7 g s i (iR s i) w1 h hE);open asl in exact Wq
theorem Dh {w:World} {g:Nat} (h:dD g w0 w):dD g w0 (((((((w.setCell ⟨w0.heap.size,0,none⟩ b0).setCell ⟨w0.heap.size,1,none⟩ b1).setCell ⟨w0.heap.size,2,none⟩ b2).setCell ⟨w0.heap.size,3,none⟩ b3).setCell ⟨w0.heap.size,4,none⟩ b4).setCell ⟨w0.heap.size,5,none⟩ b5).setCell ⟨w0.heap.size,6,none⟩ b6):=by
 have hb:=rA (a:=w) (w:=w) (B:=w0.heap.size) (g:=w0.heap.size) (b0:=b0) (b1:=b1) (b2:=b2) (b3:=b3) (b4:=b4) (b5:=b5) (b6:=b6) (aEK _ _) (aEx _);exact⟨hb.os.trans h.os,hb.tape.trans h.tape,hb.output.trans h.output,aEA h.size hb.size,λk hk hg=>(hb.block k hk).trans (h.block k hk hg)⟩
theorem Ba {w:World} {h g:Nat} {o:Option Obj} (hne:g≠h) (e:w.heap[g]?=o):(((((((w.setCell ⟨h,0,none⟩ b0).setCell ⟨h,1,none⟩ b1).setCell ⟨h,2,none⟩ b2).setCell ⟨h,3,none⟩ b3).setCell ⟨h,4,none⟩ b4).setCell ⟨h,5,none⟩ b5).setCell ⟨h,6,none⟩ b6).heap[g]?=o:=
 one_other (one_other (one_other (one_other (one_other (one_other (one_other e hne) hne) hne) hne) hne) hne) hne
theorem P8 {g:Nat} {w:World} (h:Handle w) (hk:dD g w w') (_hg:g < w.heap.size) (hne:g≠0):Handle w':=by
 unfold Handle at h ⊢
 have hlt:0 < w.heap.size:=by
  rcases aFD 0 w.heap.size with h'|h'
  .exact h'
  .unfold World.cell? at h;rw [aFp h'] at h;cases h
 rw [<-h];exact aE6 (w:=w) (hk.block _ hlt (Ne.symm hne))
theorem Zd (hs:s.size<=maxLen) (h:jv w g s i) (hH:Handle w) (hE:iR s i < 0):Calls prog 240 #[.pointer (some ⟨g,0,none⟩)] w λe w'=>(∃p,e=Y7 p)/\dD g w w':=by
 have HT:=Hq (λw1 h h2=>KP g s i w1 hs h h2 hE);have H:=Hq (aI h (au w (.cells (bH 0 0 0 0 0 ⟨#[]⟩ 0) 104)));have HH:=Hq (hH.below (au w (.cells (bH 0 0 0 0 0 ⟨#[]⟩ 0) 104)));clear h hH hE hs;go_in
 go_wp2_with fail;refine(HT _ H HH).mono ?_;rintro e w1 ⟨rfl,hb1⟩;have HB:=Hq (dD.of_below (g:=g) ((au w _).trans (hb1.mono Aac)));clear hb1;go_wp2_with fail;exact⟨rfl,⟨_,rfl⟩,HB⟩
theorem Ze (hs:s.size<=maxLen) (hg:g < w.heap.size) (h:jv w g s i) (hH:Handle w) (hE:0<=iR s i) (hb:(jU s i).size=0):Calls prog 240 #[.pointer (some ⟨g,0,none⟩)] w λe w'=>e= .returned (nT (mH (jU s i)))/\jv w' g s (iR s i)/\dD g w w':=by
 have HT:=Hq (λw1 h h2=>uO g s i w1 hs h h2 hE);have H:=Hq (aI h (au w (.cells (bH 0 0 0 0 0 ⟨#[]⟩ 0) 104)));have HH:=Hq (hH.below (au w (.cells (bH 0 0 0 0 0 ⟨#[]⟩ 0) 104)));rw [(Ke hb).1];rw [KV hb] at HT;clear h hH hE hs hb;generalize iR s i=E at *;have hg2:w.heap.size≠g:=Aaa
 go_in
 go_wp2_with fail;refine(HT _ H HH).mono ?_;rintro e w1 ⟨rfl,hr1,hk1⟩;have HR:=Hq (hk1.obj (aEu w _) hg2);have HK:=Hq ((dD.of_below (au w _)).trans hk1);have HR1:=Hq hr1;clear hr1 hk1;obtain⟨⟨d0,d1,d2,d3,d4,d5,d6⟩,f0,f1,f2,f3,f4,f5,f6⟩:=dY HR;go_wp2_with fail;refine gY (λW' hW'=>?_);obtain⟨⟨r0,r1,r2,r3,r4,r5,r6⟩,_⟩:=dY (show W'.heap[w.heap.size]?=some (.cells (bH 0 0 0 0 0 ⟨#[]⟩ 0) 104 (0,0)) by rw [hW'];exact tH HR);have WX:dD g w W':=by rw [hW'];exact Dh HK
 have hRR:jv W' g s E:=by rw [hW'];exact Ba (Ne.symm hg2) HR1
 exact aEE (v:= .agg (bH 0 0 0 0 0 ⟨#[]⟩ 0)) Acw rfl ⟨rfl,hRR,WX⟩
theorem Zc (hs:s.size<=maxLen) (hg:g < w.heap.size) (hge:g≠0) (h:jv w g s i) (hH:Handle w) (hE:0<=iR s i) (hb:0 < (jU s i).size) (ho:jP (jU s i)=false):Calls prog 240 #[.pointer (some ⟨g,0,none⟩)] w λe w'=>(∃p,e=Y7 p)/\dD g w w':=by
 have HT:=Hq (λw1 h h2=>uO g s i w1 hs h h2 hE);have HGM:=Hq (λw1 h=>FE (jU s i) (aEA (tC s i) Aai) w1 h);rw [El ho] at HGM;have HF:=Hq (λw1 h=>Nq g s (iR s i) w1 h);have H:=Hq (aI h (au w (.cells (bH 0 0 0 0 0 ⟨#[]⟩ 0) 104)));have HH:=Hq hH;have hne:=ku _ hb;clear h hH hE hs hb ho;generalize iR s i=E at *;generalize jU s i=B at *;have hg2:w.heap.size≠g:=Aaa
 go_in
 go_wp2_with fail;refine(HT _ H (HH.below (au w _))).mono ?_;rintro e w1 ⟨rfl,hr1,hk1⟩;open avg in exact ahr
theorem adp (hs:s.size<=maxLen) (hg:g < w.heap.size) (hge:g≠0) (h:jv w g s i) (hH:Handle w) (hE:0<=iR s i) (hb:0 < (jU s i).size) (ho:jP (jU s i)=true):Calls prog 240 #[.pointer (some ⟨g,0,none⟩)] w λe w'=>e= .returned (nT (mH (jU s i)))/\jv w' g s (iR s i)/\dD g w w':=by
 have HT:=Hq (λw1 h h2=>uO g s i w1 hs h h2 hE);have HGM:=Hq (λw1 h=>FE (jU s i) (aEA (tC s i) Aai) w1 h);unfold DU at HGM;rw [ho] at HGM;have H:=Hq (aI h (au w (.cells (bH 0 0 0 0 0 ⟨#[]⟩ 0) 104)));have HH:=Hq hH;have hne:=ku _ hb;clear h hH hE hs hb ho;generalize iR s i=E at *;generalize mH (jU s i)=m at *;generalize jU s i=B at *;obtain⟨mK,mF,mT,mI,mL,mk,mN⟩:=m;have hg2:w.heap.size≠g:=Aaa
 go_in
 go_wp2_with fail;refine(HT _ H (HH.below (au w _))).mono ?_;rintro e w1 ⟨rfl,hr1,hk1⟩;have HR:=Hq (hk1.obj (aEu w _) hg2);open avf in exact ahr
structure OS (w0 W:World) (g o:Nat) (s:ByteArray) (i:Int) (cs:Array Value):Prop where
 rd:jv W g s i
 res:W.heap[w0.heap.size]?=some (.cells (bE 0 0 ⟨#[]⟩ 0 0 0 0 0 0 ⟨#[]⟩ 0) 106 (0,0))
 op:W.heap[o]?=some (.cells cs 106 (0,0))
 keep:dD g w0 W
 lo:w0.heap.size < o
theorem OS.step {g:Nat} {s:ByteArray} {i j:Int} (h:OS w0 W g o s i cs) (hr:jv w' g s j) (hk:dD g W w') (hg:g < w0.heap.size):OS w0 w' g o s j cs:=
 ⟨hr,hk.obj h.res Aaa,hk.obj h.op (by have:=h.lo;omega),h.keep.trans hk,h.lo⟩
theorem OS.below {g:Nat} {s:ByteArray} {i:Int} (h:OS w0 W g o s i cs) (hb:aG W w') (hg:g < w0.heap.size):OS w0 w' g o s i cs:=
 h.step (aI h.rd hb) (dD.of_below hb) hg
theorem dD.setNew {g h i:Nat} {w:World} {v:Value} (k:dD g w0 w) (hh:w0.heap.size<=h):dD g w0 (w.setCell ⟨h,i,none⟩ v):=
 ⟨k.os,k.tape,k.output,by have:=k.size;simpa [World.setCell] using this,λx hx hg=>by
  have hne:x≠h:=Aaa
  rw [aEU _ _ _ _ hne]
  exact k.block x hx hg⟩
theorem OS.set {g:Nat} {s:ByteArray} {i:Int} (h:OS w0 W g o s i cs) (hg:g < w0.heap.size) (k:Nat) (v:Value):OS w0 (W.setCell ⟨o,k,none⟩ v) g o s i (cs.setIfInBounds k v):=by
 have hlo:=h.lo;exact⟨one_other h.rd Aaa,one_other h.res Aaa,blk_set h.op k v,h.keep.setNew Aaa,hlo⟩
theorem OS.tail {g:Nat} {s:ByteArray} {i:Int} {a0 a1 a2 a3 a4 a5 a6 a7 a8 a9 Ow b7 b8 b9 b10:Value} (h:OS w0 W g o s i #[a0,a1,a2,a3,a4,a5,a6,a7,a8,a9,Ow]) (hg:g < w0.heap.size):OS w0 (((((((W.setCell ⟨o,4,none⟩ b4).setCell ⟨o,5,none⟩ b5).setCell ⟨o,6,none⟩ b6).setCell ⟨o,7,none⟩ b7).setCell ⟨o,8,none⟩ b8).setCell ⟨o,9,none⟩ b9).setCell ⟨o,10,none⟩ b10) g o s i #[a0,a1,a2,a3,b4,b5,b6,b7,b8,b9,b10]:=by
 have h4:OS w0 (W.setCell ⟨o,4,none⟩ b4) g o s i #[a0,a1,a2,a3,b4,a5,a6,a7,a8,a9,Ow]:=h.set hg 4 b4;have h5:OS w0 ((W.setCell ⟨o,4,none⟩ b4).setCell ⟨o,5,none⟩ b5) g o s i #[a0,a1,a2,a3,b4,b5,a6,a7,a8,a9,Ow]:=h4.set hg 5 b5;have h6:OS w0 (((W.setCell ⟨o,4,none⟩ b4).setCell ⟨o,5,none⟩ b5).setCell ⟨o,6,none⟩ b6) g o s i #[a0,a1,a2,a3,b4,b5,b6,a7,a8,a9,Ow]:=h5.set hg 6 b6;have h7:OS w0 ((((W.setCell ⟨o,4,none⟩ b4).setCell ⟨o,5,none⟩ b5).setCell ⟨o,6,none⟩ b6).setCell ⟨o,7,none⟩ b7) g o s i #[a0,a1,a2,a3,b4,b5,b6,b7,a8,a9,Ow]:=h6.set hg 7 b7;have h8:OS w0 (((((W.setCell ⟨o,4,none⟩ b4).setCell ⟨o,5,none⟩ b5).setCell ⟨o,6,none⟩ b6).setCell ⟨o,7,none⟩ b7).setCell ⟨o,8,none⟩ b8) g o s i #[a0,a1,a2,a3,b4,b5,b6,b7,b8,a9,Ow]:=h7.set hg 8 b8;have h9:OS w0 ((((((W.setCell ⟨o,4,none⟩ b4).setCell ⟨o,5,none⟩ b5).setCell ⟨o,6,none⟩ b6).setCell ⟨o,7,none⟩ b7).setCell ⟨o,8,none⟩ b8).setCell ⟨o,9,none⟩ b9) g o s i #[a0,a1,a2,a3,b4,b5,b6,b7,b8,b9,Ow]:=h8.set hg 9 b9;have h10:OS w0 (((((((W.setCell ⟨o,4,none⟩ b4).setCell ⟨o,5,none⟩ b5).setCell ⟨o,6,none⟩ b6).setCell ⟨o,7,none⟩ b7).setCell ⟨o,8,none⟩ b8).setCell ⟨o,9,none⟩ b9).setCell ⟨o,10,none⟩ b10) g o s i #[a0,a1,a2,a3,b4,b5,b6,b7,b8,b9,b10]:=h9.set hg 10 b10;exact h10
theorem Handle.keep1 {g:Nat} {w:World} (h:Handle w) (hk:dD g w w') (hg:g < w.heap.size) (hge:g≠0):Handle w':=P8 h hk hg hge
theorem aCX (g:Nat) (s:ByteArray) (w:World) (hs:s.size<=maxLen) (hg:g < w.heap.size) (hge:g≠0) (h:jv w g s 0) (hH:Handle w):Calls prog 217 #[.pointer (some ⟨g,0,none⟩)] w λe w'=>(kN s=true/\e= .returned (jF (opC s))\/kN s=false/\∃p,e=Y7 p)/\dD g w w':=by
 by_cases h0:s.size=0
 .have HK:=Hq (λw1 h=>Zb g s w1 h h0);have H:=Hq (aI h (au w (.cells (bE 0 0 ⟨#[]⟩ 0 0 0 0 0 0 ⟨#[]⟩ 0) 106)));have hno:kN s=false:=by unfold kN;rw [aEw Aaa];rfl
  have jD:=Hq hno;clear h hH hno;generalize kN s=OK at *;go_in
  go_wp2_with fail;refine(HK _ H).mono ?_;rintro e w1 ⟨rfl,hb1⟩;have HB:=Hq (dD.of_below (g:=g) ((au w _).trans (hb1.mono Aac)));clear hb1;go_wp2_with fail;exact⟨rfl,.inr ⟨jD,_,rfl⟩,HB⟩
 have h1:0 < s.size:=Aaa
 have HK:=Hq (λw1 h=>Vb g s w1 h h1);have azO:=Hq (λw1 h hh hE=>KO g s 1 w1 hs h hh hE);have azN:=Hq (λw1 h hh hE=>Q8 g s 1 w1 hs h hh hE);have az0:=Hq (λw1 h hh hE=>uO g s (jR s 1) w1 hs h hh hE);have azZ:=Hq (λw1 h hh hE=>KP g s (jR s 1) w1 hs h hh hE);have azQ:Hid (∀w1:World,jv w1 g s (iR s (jR s 1))->Handle w1->0<=KD s->Calls prog 238 #[.pointer (some ⟨g,0,none⟩)] w1 λe w'=>e= .returned (.int .i64 (uN s (iR s (jR s 1))))/\jv w' g s (KD s)/\dD g w1 w'):=λw1 h hh hE=>KO g s (iR s (jR s 1)) w1 hs h hh hE
 have azP:Hid (∀w1:World,jv w1 g s (iR s (jR s 1))->Handle w1->KD s < 0->Calls prog 238 #[.pointer (some ⟨g,0,none⟩)] w1 λe w'=>e=Y7 (iR s (jR s 1))/\aG w1 w'):=λw1 h hh hE=>Q8 g s (iR s (jR s 1)) w1 hs h hh hE
 have HM:Hid (∀w1:World,g < w1.heap.size->jv w1 g s (KD s)->Handle w1->Calls prog 240 #[.pointer (some ⟨g,0,none⟩)] w1 λe w'=>((0<=M8 s/\qW s=true)/\e= .returned (nT (mH (Bw s)))/\jv w' g s (M8 s)\/¬(0<=M8 s/\qW s=true)/\∃p,e=Y7 p)/\dD g w1 w'):=by
  intro w1 hg1 h2 h3;by_cases hE:0<=M8 s
  .by_cases hb:(Bw s).size=0
   .refine(Ze g s (KD s) w1 hs hg1 h2 h3 hE hb).mono ?_;rintro e w' ⟨he,hr,hk⟩;exact⟨.inl ⟨⟨hE,by unfold qW;rw [aEy hb];rfl⟩,he,hr⟩,hk⟩
   .cases ho:jP (Bw s)
    .refine(Zc g s (KD s) w1 hs hg1 hge h2 h3 hE (by have:(Bw s).size≠0:=hb;unfold Bw at this;omega) ho).mono ?_;rintro e w' ⟨he,hk⟩;exact⟨.inr ⟨(λhx=>by have h9:=hx.2;unfold qW at h9;rw [aEw hb,ho] at h9;cases h9),he⟩,hk⟩
    .refine(adp g s (KD s) w1 hs hg1 hge h2 h3 hE (by have:(Bw s).size≠0:=hb;unfold Bw at this;omega) ho).mono ?_;rintro e w' ⟨he,hr,hk⟩;exact⟨.inl ⟨⟨hE,by unfold qW;rw [ho];simp⟩,he,hr⟩,hk⟩
  .refine(Zd g s (KD s) w1 hs h2 h3 (by have:¬0<=M8 s:=hE;unfold M8 at this;omega)).mono ?_;rintro e w' ⟨he,hk⟩;exact⟨.inr ⟨λhx=>hE hx.1,he⟩,hk⟩
 have nD:=Hq (λw1=>YC (opC s) w1);have HF:=Hq (λw1 h=>Nq g s (M8 s) w1 h)
 have HG:Hid (kN s=true↔M8 s=s.size/\qW s=true/\bC (opC s)=true):=by
  show kN s=true↔_
  unfold kN;rw [aEy h1];simp[and_assoc]
 have HX:Hid (0<=M8 s->0<=KD s/\0<=iR s (jR s 1)/\0<=jR s 1):=λhE=>by
  have g3:0<=KD s:=(iD (s:=s) (i:=KD s) hE).1
  have g2:=(lH (s:=s) (i:=iR s (jR s 1)) g3).1
  exact⟨g3,g2,(iD (s:=s) (i:=jR s 1) g2).1⟩
 have hC:opC s=⟨s[0].toNat,uN s 1,jU s (jR s 1),uN s (iR s (jR s 1)),mH (Bw s)⟩:=by unfold opC;rw [Mq h1]
 rw [hC] at nD HG ⊢
 have jD:Hid (¬(0<=M8 s/\qW s=true)->kN s=false):=λhx=>by
  rw [aGp]
  intro hy
  have:=HG.1 hy
  exact hx ⟨Aaa,this.2.1⟩
 have HH:=Hq hH;have H:=Hq (aI h (au w (.cells (bE 0 0 ⟨#[]⟩ 0 0 0 0 0 0 ⟨#[]⟩ 0) 106)));clear h hH hC h0;generalize kN s=OK at *;generalize mH (Bw s)=m at *;generalize qW s=BO at *;open asT in exact agQ
theorem aCQ (s:ByteArray) (w:World) (hs:s.size<=maxLen) (hH:Handle w):Calls prog 201 #[.string s] w λe w'=>(kN s=true/\e= .returned (jF (opC s))\/kN s=false/\∃p,e=Y7 p)/\aG w w':=by
 obtain⟨hP,hR,hB⟩:=gU w (.cells (bE 0 0 ⟨#[]⟩ 0 0 0 0 0 0 ⟨#[]⟩ 0) 106) (.cells #[.string s,.int .i64 0] 269)
 have hlt:0 < w.heap.size:=by
  exact aif
 have HO:=Hq (aCX (w.heap.size+1) s _ hs Aac Aaa hR (hH.below hB));have HP:=Hq hP;have HB:=Hq hB;clear hP hR hB hs hH hlt;generalize opC s=oc at *;obtain⟨K,no,k,n,⟨mK,mF,mT,mI,mL,mk,mN⟩⟩:=oc;go_in
 go_wp2_with fail;refine HO.mono ?_;rintro e w1 ⟨hcase,hk⟩;have HR1:=Hq (hk.obj HP Aaa);have HB1:=Hq (hk.below HB Aaa HB.size);clear hk HO HP HB;rcases hcase with⟨hyes,rfl⟩|⟨hno,p,rfl⟩
 .obtain⟨⟨d0,d1,d2,d3,d4,d5,d6,d7,d8,d9,d10⟩,f0,f1,f2,f3,f4,f5,f6,f7,f8,f9,f10⟩:=aJ HR1;go_wp2_with fail;refine gY (λW' hW'=>?_);obtain⟨⟨r0,r1,r2,r3,r4,r5,r6,r7,r8,r9,Za⟩,_⟩:=aJ (show W'.heap[w.heap.size]?=some (.cells (bE K no k n mK mF mT mI mL mk mN) 106 (0,0)) by rw [hW'];exact lC HR1);have hbb:aG w W':=by rw [hW'];exact iw HB1 (aEx _)
  exact aEE (v:= .agg (bE K no k n mK mF mT mI mL mk mN)) (by simp[results,results201,go_sem,r0,r1,r2,r3,r4,r5,r6,r7,r8,r9,Za]) rfl ⟨.inl ⟨hyes,rfl⟩,hbb⟩
 .go_wp2_with fail;exact⟨rfl,.inr ⟨hno,_,rfl⟩,HB1⟩
end Go.Proofs.YtfachhcijcjbpaaGreatDoor
