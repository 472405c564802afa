/- Parts. -/
import Derived.Test.YtbolgdleijjgfaaGreatDoorRs14
namespace Go.Proofs.YtbolgdleijjgfaaGreatDoor
open Go.Proofs.Tryz
set_option maxHeartbeats 8000000
set_option maxRecDepth 100000
open Go.RowKit
open Mth
variable (s:ByteArray) {g:Nat} {w w':World} {i:Int} {b0 b1 b2 b3 b4 b5 b6:Value} {t:ByteArray}
structure dJ (g:Nat) (w w':World):Prop where
 os:w'.os=w.os
 tape:w'.tape=w.tape
 output:w'.output=w.output
 size:w.heap.size<=w'.heap.size
 block:∀k,k < w.heap.size->k≠g->w'.heap[k]?=w.heap[k]?
theorem dJ.of_below (h:aH w w'):dJ g w w':=⟨h.os,h.tape,h.output,h.size,λk hk _=>h.block k hk⟩
theorem dJ.trans {a b c:World} (h:dJ g a b) (k:dJ g b c):dJ g a c:=
 ⟨k.os.trans h.os,k.tape.trans h.tape,k.output.trans h.output,aEP h.size k.size,λi hi hg=>(k.block i (aEU hi h.size) hg).trans (h.block i hi hg)⟩
theorem dJ.set {i:Nat} (v:Value):dJ g w (w.setCell ⟨g,i,none⟩ v):=⟨rfl,rfl,rfl,Aaq,λk _ hg=>aE9 _ _ _ _ hg⟩
theorem dJ.below {B:Nat} {a:World} (hb:Below B a w) (h:dJ g w w') (hg:B<=g) (hB:B<=w.heap.size):Below B a w':=
 ⟨h.os.trans hb.os,h.tape.trans hb.tape,h.output.trans hb.output,aEP hb.size h.size,λk hk=>(h.block k Aaa Aaa).trans (hb.block k hk)⟩
theorem dJ.obj {k:Nat} {o:Obj} (h:dJ g w w') (hk:w.heap[k]?=some o) (hne:k≠g):w'.heap[k]?=some o:=by rw [h.block k (cK hk) hne];exact hk
abbrev Y9 (p:Int):Ending:= .panicked [{v:= .iface 221 (.agg #[.int .i64 p]),recovered:=false}]
abbrev jK (w:World) (g:Nat) (s:ByteArray) (i:Int):Prop:=w.heap[g]?=some (.cells #[.string s,.int .i64 i] 232 (0,0))
theorem jK.two {s:ByteArray} (h:jK w g s i):w.cell? ⟨g,0,none⟩=some (.string s)/\w.cell? ⟨g,1,none⟩=some (.int .i64 i)/\w.frozen? ⟨g,0,none⟩=false/\w.frozen? ⟨g,1,none⟩=false:=by
 have hf:∀i,w.frozen? ⟨g,i,none⟩=false:=λi=>by unfold World.frozen?;rw [h];simp
 have hc:∀j,w.cell? ⟨g,j,none⟩=#[Value.string s,Value.int .i64 i][j]?:=λj=>aEW w g j _ 232 (0,0) h
 exact⟨hc 0,hc 1,hf 0,hf 1⟩
theorem jK.set {s:ByteArray} (h:jK w g s i) (j:Int):jK (w.setCell ⟨g,1,none⟩ (.int .i64 j)) g s j:=blk_set h 1 (.int .i64 j)
theorem jv (w:World) (n:Nat):Below w.heap.size w (w.drewN n):=⟨rfl,rfl,rfl,aEM _,λ_ _=>rfl⟩
theorem M9 (g:Nat) (s:ByteArray) (i:Int) (w:World) (h:jK w g s i):Calls prog 237 #[.pointer (some ⟨g,0,none⟩)] w λe w'=>e=Y9 i/\w=w':=by
 obtain⟨c0,c1,f0,f1⟩:=h.two;clear h;go_in
 go_wp2_with fail;exact⟨rfl,rfl,rfl⟩
theorem Xd (g:Nat) (s:ByteArray) (i n:Int) (w:World) (h:jK w g s i) (hn:n < 0):Calls prog 270 #[.pointer (some ⟨g,0,none⟩),.int .i64 n] w λe w'=>e=Y9 i/\w=w':=by
 have HF:=Hq (λw1 h=>M9 g s i w1 h);have H:=Hq h;clear h;go_in
 go_wp2_with fail;refine(HF _ H).mono ?_;rintro e w1 ⟨rfl,rfl⟩;go_wp2_with fail;exact⟨rfl,rfl,rfl⟩
theorem QK (g:Nat) (s:ByteArray) (i n:Int) (w:World) (h:jK w g s i) (hn:0<=n):Calls prog 270 #[.pointer (some ⟨g,0,none⟩),.int .i64 n] w λe w'=>e= .returned (.tuple #[])/\w.setCell ⟨g,1,none⟩ (.int .i64 n)=w':=by
 obtain⟨c0,c1,f0,f1⟩:=h.two;have hn2:¬n < 0:=Aaa
 clear h;go_in
 go_wp2_with fail;exact aGD (v:= .tuple #[]) (by simp[results,results270,go_sem]) rfl ⟨rfl,rfl⟩
theorem Zc (g:Nat) (s:ByteArray) (w:World) (h:jK w g s 0) (hs:s.size=0):Calls prog 232 #[.pointer (some ⟨g,0,none⟩)] w λe w'=>e=Y9 0/\aH w w':=by
 have HF:=Hq (λw1 h=>M9 g s 0 w1 h);obtain⟨c0,c1,f0,f1⟩:=h.two;have H:=Hq h;have he:((0:Int) == (s.size:Int))=true:=by simp[hs]
 clear h;go_in
 go_upto_region 1 with fail;go_quiet (fail);go_wp2_with fail;refine(HF _ (aI H (jv w _))).mono ?_;rintro e w1 ⟨rfl,rfl⟩;go_wp2_with fail;exact⟨rfl,rfl,jv w _⟩
theorem Uz (g:Nat) (s:ByteArray) (w:World) (h:jK w g s 0) (hs:0 < s.size):Calls prog 232 #[.pointer (some ⟨g,0,none⟩)] w λe w'=>e= .returned (.int .i64 (s[0].toNat:Int))/\jK w' g s 1/\dJ g w w':=by
 obtain⟨c0,c1,f0,f1⟩:=h.two;have H:=Hq h;have he:((0:Int) == (s.size:Int))=false:=Aah
 have he2:¬((0:Int)=(s.size:Int)):=Aaa
 have hi0:(0:Int) < (s.size:Int):=Aaa
 open asH in exact VN
theorem QM (g:Nat) (s:ByteArray) (i:Int) (w:World) (hs:s.size<=maxLen) (h:jK w g s i) (hH:Handle w) (hE:jX s i < 0):Calls prog 233 #[.pointer (some ⟨g,0,none⟩)] w λe w'=>e=Y9 i/\aH w w':=by
 have HC:=Hq (λw1 h=>yR s i hs w1 h);have HG:=Hq (λw1 h=>Xd g s i (jX s i) w1 h hE);open asB in exact VL
theorem Kz (g:Nat) (s:ByteArray) (i:Int) (w:World) (hs:s.size<=maxLen) (h:jK w g s i) (hH:Handle w) (hE:0<=jX s i):Calls prog 233 #[.pointer (some ⟨g,0,none⟩)] w λe w'=>e= .returned (.int .i64 (vB s i))/\jK w' g s (jX s i)/\dJ g w w':=by
 have HC:=Hq (λw1 h=>yR s i hs w1 h);have HG:=Hq (λw1 h=>QK g s i (jX s i) w1 h hE);open asA in exact VL
theorem KD (g:Nat) (s:ByteArray) (i:Int) (w:World) (hs:s.size<=maxLen) (h:jK w g s i) (hH:Handle w) (hE:iZ s i < 0):Calls prog 234 #[.pointer (some ⟨g,0,none⟩)] w λe w'=>e=Y9 i/\aH w w':=by
 have HC:=Hq (λw1 h=>Mv s i hs w1 h);have HG:=Hq (λw1 h=>Xd g s i (iZ s i) w1 h hE);open asz in exact VL
theorem vC (g:Nat) (s:ByteArray) (i:Int) (w:World) (hs:s.size<=maxLen) (h:jK w g s i) (hH:Handle w) (hE:0<=iZ s i):Calls prog 234 #[.pointer (some ⟨g,0,none⟩)] w λe w'=>e= .returned (.string (j6 s i))/\jK w' g s (iZ s i)/\dJ g w w':=by
 have HC:=Hq (λw1 h=>Mv s i hs w1 h);have HG:=Hq (λw1 h=>QK g s i (iZ s i) w1 h hE);open asy in exact VL
theorem Dn {w0:World} (h:dJ g w0 w):dJ g w0 (((((((w.setCell ⟨w0.heap.size,0,none⟩ b0).setCell ⟨w0.heap.size,1,none⟩ b1).setCell ⟨w0.heap.size,2,none⟩ b2).setCell ⟨w0.heap.size,3,none⟩ b3).setCell ⟨w0.heap.size,4,none⟩ b4).setCell ⟨w0.heap.size,5,none⟩ b5).setCell ⟨w0.heap.size,6,none⟩ b6):=by
 have hb:=rQ (a:=w) (w:=w) (B:=w0.heap.size) (g:=w0.heap.size) (b0:=b0) (b1:=b1) (b2:=b2) (b3:=b3) (b4:=b4) (b5:=b5) (b6:=b6) (aEY _ _) (aEM _);exact⟨hb.os.trans h.os,hb.tape.trans h.tape,hb.output.trans h.output,aEP h.size hb.size,λk hk hg=>(hb.block k hk).trans (h.block k hk hg)⟩
theorem Bj {h:Nat} {o:Option Obj} (hne:g≠h) (e:w.heap[g]?=o):(((((((w.setCell ⟨h,0,none⟩ b0).setCell ⟨h,1,none⟩ b1).setCell ⟨h,2,none⟩ b2).setCell ⟨h,3,none⟩ b3).setCell ⟨h,4,none⟩ b4).setCell ⟨h,5,none⟩ b5).setCell ⟨h,6,none⟩ b6).heap[g]?=o:=
 one_other (one_other (one_other (one_other (one_other (one_other (one_other e hne) hne) hne) hne) hne) hne) hne
theorem PG (h:Handle w) (hk:dJ g w w') (_hg:g < w.heap.size) (hne:g≠0):Handle w':=by
 unfold Handle at h ⊢
 have hlt:0 < w.heap.size:=by
  rcases aFX 0 w.heap.size with h'|h'
  .exact h'
  .unfold World.cell? at h;rw [aFJ h'] at h;cases h
 rw [<-h];exact aFq (w:=w) (hk.block _ hlt (Ne.symm hne))
theorem Ze (g:Nat) (s:ByteArray) (i:Int) (w:World) (hs:s.size<=maxLen) (h:jK w g s i) (hH:Handle w) (hE:iZ s i < 0):Calls prog 235 #[.pointer (some ⟨g,0,none⟩)] w λe w'=>(∃p,e=Y9 p)/\dJ g w w':=by
 have HT:=Hq (λw1 h h2=>KD g s i w1 hs h h2 hE);have H:=Hq (aI h (au w (.cells (bQ 0 0 0 0 0 ⟨#[]⟩ 0) 70)));have HH:=Hq (hH.below (au w (.cells (bQ 0 0 0 0 0 ⟨#[]⟩ 0) 70)));clear h hH hE hs;go_in
 go_wp2_with fail;refine(HT _ H HH).mono ?_;rintro e w1 ⟨rfl,hb1⟩;have HB:=Hq (dJ.of_below (g:=g) ((au w _).trans (hb1.mono Aac)));clear hb1;go_wp2_with fail;exact⟨rfl,⟨_,rfl⟩,HB⟩
theorem Zf (g:Nat) (s:ByteArray) (i:Int) (w:World) (hs:s.size<=maxLen) (hg:g < w.heap.size) (h:jK w g s i) (hH:Handle w) (hE:0<=iZ s i) (hb:(j6 s i).size=0):Calls prog 235 #[.pointer (some ⟨g,0,none⟩)] w λe w'=>e= .returned (nZ (mY (j6 s i)))/\jK w' g s (iZ s i)/\dJ g w w':=by
 have HT:=Hq (λw1 h h2=>vC g s i w1 hs h h2 hE);have H:=Hq (aI h (au w (.cells (bQ 0 0 0 0 0 ⟨#[]⟩ 0) 70)));have HH:=Hq (hH.below (au w (.cells (bQ 0 0 0 0 0 ⟨#[]⟩ 0) 70)));rw [(JZ hb).1];rw [KN hb] at HT;clear h hH hE hs hb;generalize iZ s i=E at *;have hg2:w.heap.size≠g:=Aaa
 go_in
 go_wp2_with fail;refine(HT _ H HH).mono ?_;rintro e w1 ⟨rfl,hr1,hk1⟩;have HR:=Hq (hk1.obj (aEK w _) hg2);have HK:=Hq ((dJ.of_below (au w _)).trans hk1);have HR1:=Hq hr1;clear hr1 hk1;obtain⟨⟨d0,d1,d2,d3,d4,d5,d6⟩,f0,f1,f2,f3,f4,f5,f6⟩:=eD HR;go_wp2_with fail;refine iw (λW' hW'=>?_);obtain⟨⟨r0,r1,r2,r3,r4,r5,r6⟩,_⟩:=eD (show W'.heap[w.heap.size]?=some (.cells (bQ 0 0 0 0 0 ⟨#[]⟩ 0) 70 (0,0)) by rw [hW'];exact tY HR);have vU:dJ g w W':=by rw [hW'];exact Dn HK
 have hRR:jK W' g s E:=by rw [hW'];exact Bj (Ne.symm hg2) HR1
 exact aET (v:= .agg (bQ 0 0 0 0 0 ⟨#[]⟩ 0)) Adi rfl ⟨rfl,hRR,vU⟩
theorem Zd (g:Nat) (s:ByteArray) (i:Int) (w:World) (hs:s.size<=maxLen) (hg:g < w.heap.size) (hge:g≠0) (h:jK w g s i) (hH:Handle w) (hE:0<=iZ s i) (hb:0 < (j6 s i).size) (ho:jV (j6 s i)=false):Calls prog 235 #[.pointer (some ⟨g,0,none⟩)] w λe w'=>(∃p,e=Y9 p)/\dJ g w w':=by
 have HT:=Hq (λw1 h h2=>vC g s i w1 hs h h2 hE);have HGM:=Hq (λw1 h=>FC (j6 s i) (aEP (tV s i) Aaj) w1 h);rw [Ep ho] at HGM;have HF:=Hq (λw1 h=>M9 g s (iZ s i) w1 h);have H:=Hq (aI h (au w (.cells (bQ 0 0 0 0 0 ⟨#[]⟩ 0) 70)));have HH:=Hq hH;have hne:=kJ _ hb;clear h hH hE hs hb ho;generalize iZ s i=E at *;generalize j6 s i=B at *;have hg2:w.heap.size≠g:=Aaa
 go_in
 go_wp2_with fail;refine(HT _ H (HH.below (au w _))).mono ?_;rintro e w1 ⟨rfl,hr1,hk1⟩;open avH in exact ahn
theorem adj (g:Nat) (s:ByteArray) (i:Int) (w:World) (hs:s.size<=maxLen) (hg:g < w.heap.size) (hge:g≠0) (h:jK w g s i) (hH:Handle w) (hE:0<=iZ s i) (hb:0 < (j6 s i).size) (ho:jV (j6 s i)=true):Calls prog 235 #[.pointer (some ⟨g,0,none⟩)] w λe w'=>e= .returned (nZ (mY (j6 s i)))/\jK w' g s (iZ s i)/\dJ g w w':=by
 have HT:=Hq (λw1 h h2=>vC g s i w1 hs h h2 hE);have HGM:=Hq (λw1 h=>FC (j6 s i) (aEP (tV s i) Aaj) w1 h);unfold DX at HGM;rw [ho] at HGM;have H:=Hq (aI h (au w (.cells (bQ 0 0 0 0 0 ⟨#[]⟩ 0) 70)));have HH:=Hq hH;have hne:=kJ _ hb;clear h hH hE hs hb ho;generalize iZ s i=E at *;generalize mY (j6 s i)=m at *;generalize j6 s i=B at *;obtain⟨mK,mF,mT,mI,mL,mk,mN⟩:=m;have hg2:w.heap.size≠g:=Aaa
 go_in
 go_wp2_with fail;refine(HT _ H (HH.below (au w _))).mono ?_;rintro e w1 ⟨rfl,hr1,hk1⟩;have HR:=Hq (hk1.obj (aEK w _) hg2);open avG in exact ahn
theorem GD (w:World):Calls prog 124 #[.string ByteArray.empty] w (dM w (.tuple #[.agg (bQ 0 0 0 0 0 ⟨#[]⟩ 0),.bool false])):=by
 go_in
 go_wp2_with fail;exact aET (v:= .tuple #[.agg (bQ 0 0 0 0 0 ⟨#[]⟩ 0),.bool false]) (by simp[results,results124,go_sem]) rfl ⟨rfl,au w _⟩
theorem Ee (hs:s.size<=maxLen) (h0:0 < s.size) (w:World):Calls prog 124 #[.string s] w (dM w (DX s)):=by
 have HN:=Hq (λw1=>afy s hs w1);have HT:=Hq (λw1=>Nu s (gG s 4) hs w1);have HG:=Hq (λw1=>Ns s (iZ s (gG s 4)) hs w1)
 have hcs:(cand s).k.size<=maxLen:=by
  show(j6 s (gG s 4)).size<=maxLen
  by_cases h:0<=iZ s (gG s 4)
  .exact aEP (iJ h).2.2.2.1 Aaj
  .unfold iZ at h;unfold j6;cases hG:textOf s (gG s 4).toNat (ig s (gG s 4)) with
   |none=>simp[ZN]
   |some p=>rw [hG] at h;exact absurd (by simp[Rz]) h
 have HP:=Hq (λw1=>GX (cand s) w1 hcs);have HO:=Hq (Fu h0);open apY in exact awX
theorem UL (hs:s.size<=maxLen) (w:World):Calls prog 124 #[.string s] w (dM w (DX s)):=by
 by_cases h0:s.size=0
 .obtain rfl:=eq_empty s h0;rw [Ep (show jV ByteArray.empty=false by unfold jV;simp)];exact GD w
 .exact Ee s hs Aaa w
def LW (s:ByteArray):Value:= .tuple #[jP (getOp s),.bool (kW s)]
theorem Wu {s:ByteArray} (h:kW s=false):LW s= .tuple #[.agg (bJ 0 0 ⟨#[]⟩ 0 0 0 0 0 0 ⟨#[]⟩ 0),.bool false]:=by
 unfold LW getOp;rw [h,aEX Aac];rfl
theorem Jh (w:World):Calls prog 95 #[.string ByteArray.empty] w (dM w (.tuple #[.agg (bJ 0 0 ⟨#[]⟩ 0 0 0 0 0 0 ⟨#[]⟩ 0),.bool false])):=by
 go_in
 go_wp2_with fail;exact aET (v:= .tuple #[.agg (bJ 0 0 ⟨#[]⟩ 0 0 0 0 0 0 ⟨#[]⟩ 0),.bool false]) (by simp[results,results95,go_sem]) rfl ⟨rfl,au w _⟩
theorem GI (hs:s.size<=maxLen) (h0:0 < s.size) (w:World):Calls prog 95 #[.string s] w (dM w (LW s)):=by
 have yu:=Hq (λw1=>Ns s 1 hs w1);have HT1:=Hq (λw1=>Nu s (jX s 1) hs w1);have Hy:Hid (∀w1:World,Calls prog 123 #[.string s,.int .i64 (iZ s (jX s 1))] w1 (dM w1 (.tuple #[.int .i64 (vB s (iZ s (jX s 1))),.int .i64 (Kq s)]))):=λw1=>Ns s (iZ s (jX s 1)) hs w1
 have HT2:Hid (∀w1:World,Calls prog 94 #[.string s,.int .i64 (Kq s)] w1 (dM w1 (.tuple #[.string (BH s),.int .i64 (MQ s)]))):=λw1=>Nu s (Kq s) hs w1
 have hbz:(BH s).size<=maxLen:=aEP (tV s (Kq s)) Aaj;have HG:=Hq (λw1=>UL (BH s) hbz w1);unfold DX at HG;have HP:=Hq (λw1=>ZA (opC s) w1 (aEP (tV s (jX s 1)) Aaj) (aEP (ac8 (BH s)) Aaj));have HO:=Hq (Yl h0);have hC:opC s=⟨s[0].toNat,vB s 1,j6 s (jX s 1),vB s (iZ s (jX s 1)),mY (BH s)⟩:=by unfold opC;rw [L9 h0]
 have HM:=Hq (show kW s=true->LW s= .tuple #[jP (opC s),.bool true] from λh=>by unfold LW getOp;rw [h,aE7 rfl]);have HZ:=Hq (show kW s=false->LW s= .tuple #[.agg (bJ 0 0 ⟨#[]⟩ 0 0 0 0 0 0 ⟨#[]⟩ 0),.bool false] from Wu);rw [show rH s=(decide ((BH s).size=0)||jV (BH s)) from rfl] at HO;rw [hC] at HP HM HO;clear hbz hC;have hne:=kJ s h0;have hi0:(0:Int) < (s.size:Int):=Aaa
 generalize LW s=RES at *;generalize kW s=OK at *;generalize mY (BH s)=m at *;generalize jV (BH s)=mo at *;open as8 in exact agN
theorem Zy (hs:s.size<=maxLen) (w:World):Calls prog 95 #[.string s] w (dM w (LW s)):=by
 by_cases h0:s.size=0
 .obtain rfl:=eq_empty s h0;rw [Wu (show kW ByteArray.empty=false by unfold kW;simp)];exact Jh w
 .exact GI s hs Aaa w
def iI (s:ByteArray):ByteArray:=s.extract 4 (min s.size 1006)
def Ei (s:ByteArray):ByteArray:=j6 (iI s) 0
def Bw (s:ByteArray):Int:=iZ (iI s) 0
theorem tO:(iI s).size=min s.size 1006 - 4:=by
 unfold iI;rw [aGq];omega
theorem afM (n:Nat) (h:n<=1000):(Mth.put n).length<=2:=by
 unfold Mth.put;by_cases h1:n<=127
 .rw [jB _ _ h1];simp
 .rw [nK _ _ h1,jB _ _ Aaa];simp
theorem adh:(oN s).size<=1002:=by
 unfold oN;split
 .rename_i h
  unfold rO;have:=afM s.size h;rw [size_of_list,aER,aZ];omega
 .decide
theorem Gl (i:Int):(j6 s i).size<=1000:=by
 exact ahT
theorem UD (i:Int):iZ s i<=s.size:=by
 by_cases h:0<=iZ s i
 .exact(iJ h).2.2.1
 .omega
def BytesAt (w:World) (g:Nat) (s:ByteArray):Prop:=∀i (hi:i < s.size),w.cell? ⟨g,i,none⟩=some (.int .u8 (s[i].toNat:Int))
theorem BytesAt.below {s:ByteArray} (h:BytesAt w g s) (hg:g < w.heap.size) (hb:aH w w'):BytesAt w' g s:=λi hi=>by rw [(fE hb).1 g i hg];exact h i hi
theorem aeW (b off i:Nat):(⟨b,off,none⟩:Addr).add i=⟨b,off+i,none⟩:=by unfold Addr.add;split<;>simp_all
theorem uH {s:ByteArray} (h:BytesAt w g s) (lo n cap:Nat) (hn:lo+n<=s.size):(convert 127 9 (.slice (some ⟨g,lo,none⟩) n cap)).run prog w= .ok (.string (s.extract lo (lo+n))) w:=by
 have hl:(s.extract lo (lo+n)).data.toList.length=n:=by rw [aZ,aGq];omega
 have hc:=aGn (P:=prog) w 127 9 5 ⟨g,lo,none⟩ cap (s.extract lo (lo+n)).data.toList underlying127 underlying5 underlying9 (λj hj=>by
  rw [aeW,h (lo+j) Aaa]
  congr 3
  have e:(s.extract lo (lo+n)).data.toList[j]=s.data.toList[lo+j]'(by rw [aZ];omega):=by
   simp only[aGf];rw [List.getElem_take,List.getElem_drop]
  rw [e]
  rfl)
 rw [hl] at hc;exact hc
theorem Tz (w:World):∃(cap:Nat) (w1:World),(convert 9 127 (.string s)).run prog w= .ok (.slice (some ⟨w.heap.size,0,none⟩) s.size cap) w1/\s.size<=cap/\BytesAt w1 w.heap.size s/\w.heap.size < w1.heap.size/\aH w w1:=by
 refine⟨_,_,run_bytes_of_string (P:=prog) w 9 127 5 s underlying9 underlying127 underlying5,?_,?_,?_,?_⟩
 .exact grownCap_ge w s.size 0 5
 .intro i hi;have h:=World.cell?_alloc_mark w.drew (bytesRow s (grownCap w s.size 0 5)) 5 ((bytesRow s (grownCap w s.size 0 5)).size,(bytesRow s (grownCap w s.size 0 5)).size+1) i;refine Eq.trans h ?_;rw [bytesRow_at s _ i hi];rfl
 .simp
 .exact((aEY _ w).drew).alloc (aEM _) _
def tl (s:ByteArray) (a:Nat):ByteArray:=s.extract a s.size
theorem xQ (a:Nat):(tl s a).size=s.size - a:=by unfold tl;rw [aGq];omega
theorem CW (a i j:Nat) (h:a+j<=s.size):(tl s a).extract i j=s.extract (a+i) (a+j):=by
 apply aF3
 apply Array.ext'
 unfold tl;rw [aGf,aGf,aGf];rw [List.drop_take,List.drop_drop,aGB];congr 1
 omega
def Wt (s:ByteArray) (a:Nat):Prop:=4<=(tl s a).size/\0<=Bw (tl s a)/\mJ (kQ (Ei (tl s a)))=(tl s a).extract 0 4
instance (s:ByteArray) (a:Nat):Decidable (Wt s a):=by unfold Wt;exact inferInstance
def Ig (s:ByteArray) (a:Nat):ByteArray:=if Wt s a then Ei (tl s a) else ByteArray.empty
def IB (s:ByteArray) (a:Nat):Int:=if Wt s a then a+4+Bw (tl s a) else -1
theorem Et (a:Nat) (h:a+4<=s.size):iI (tl s a)=s.extract (a+4) (a+min (s.size - a) 1006):=by
 unfold iI;rw [xQ,CW _ _ _ _ Aaa]
theorem IC (a g cap:Nat) (w:World) (hs:s.size<=60000) (ha:a<=s.size) (h:s.size < a+4):Calls prog 195 #[.slice (some ⟨g,0,none⟩) s.size cap,.int .i64 a] w (dM w (.tuple #[.string ByteArray.empty,.int .i64 (-1)])):=by
 have h1:(s.size:Int)<=(a:Int)+1006:=Aaa
 have h2:(s.size:Int) - (a:Int) < 4:=Aaa
 clear h;go_in
 go_wp2_with fail;exact aET (v:= .tuple #[.string ⟨#[]⟩,.int .i64 (-1)]) Acj rfl ⟨rfl,aEY _ _⟩
theorem BX (hs:s.size<=60000) (a g cap:Nat) (hcap:s.size<=cap) (w:World) (h4:s.size=a+4) (hc:BytesAt w g s) (_hg:g < w.heap.size) (hH:Handle w) (hz:Bw (tl s a) < 0):Calls prog 195 #[.slice (some ⟨g,0,none⟩) s.size cap,.int .i64 a] w (dM w (.tuple #[.string ByteArray.empty,.int .i64 (-1)])):=by
 have hr:(convert 127 9 (.slice (some ⟨g,0,none⟩) 0 0)).run prog w= .ok (.string (iI (tl s a))) w:=by
  rw [Et s a Aaa];have h:=uH hc 0 0 0 Aaa;rw [h];congr 2
  rw [show min (s.size - a) 1006=4 by omega];apply aF3
  apply Array.ext'
  rw [aGf,aGf];simp
 have ha:a<=59996:=Aaa
 have h1:(a:Int)+4<=(a:Int)+1006:=Aaa
 have h2:¬((a:Int)+4 - (a:Int) < 4):=Aaa
 have hcap2:(a:Int)+4<=(cap:Int):=Aaa
 have hmn:min (4:Int) 1006=4:=rfl;have hmo:min ((a:Int)+4) ((a:Int)+1006)=(a:Int)+4:=Int.min_eq_left Aaa;open anb in exact aeE
theorem DW (hs:s.size<=60000) (a g cap:Nat) (hcap:s.size<=cap) (w:World) (h5:a+5<=s.size) (h6:s.size<=a+1006) (hc:BytesAt w g s) (_hg:g < w.heap.size) (hH:Handle w) (hz:Bw (tl s a) < 0):Calls prog 195 #[.slice (some ⟨g,0,none⟩) s.size cap,.int .i64 a] w (dM w (.tuple #[.string ByteArray.empty,.int .i64 (-1)])):=by
 open ao7 in exact aj2
theorem DV (hs:s.size<=60000) (a g cap:Nat) (hcap:s.size<=cap) (w:World) (h5:a+5<=s.size) (h6:s.size<=a+1006) (hc:BytesAt w g s) (hg:g < w.heap.size) (hH:Handle w) (hz:0<=Bw (tl s a)) (hq:¬mJ (kQ (Ei (tl s a)))=(tl s a).extract 0 4):Calls prog 195 #[.slice (some ⟨g,0,none⟩) s.size cap,.int .i64 a] w (dM w (.tuple #[.string ByteArray.empty,.int .i64 (-1)])):=by
 open ao6 in exact aj2
theorem Cc (hs:s.size<=60000) (a g cap:Nat) (hcap:s.size<=cap) (w:World) (h5:a+5<=s.size) (h6:s.size<=a+1006) (hc:BytesAt w g s) (hg:g < w.heap.size) (hH:Handle w) (hz:0<=Bw (tl s a)) (hq:mJ (kQ (Ei (tl s a)))=(tl s a).extract 0 4):Calls prog 195 #[.slice (some ⟨g,0,none⟩) s.size cap,.int .i64 a] w (dM w (.tuple #[.string (Ei (tl s a)),.int .i64 (a+4+Bw (tl s a))])):=by
 open ao5 in exact aj2
theorem Cb (hs:s.size<=60000) (a g cap:Nat) (hcap:s.size<=cap) (w:World) (h7:a+1006 < s.size) (hc:BytesAt w g s) (_hg:g < w.heap.size) (hH:Handle w) (hz:Bw (tl s a) < 0):Calls prog 195 #[.slice (some ⟨g,0,none⟩) s.size cap,.int .i64 a] w (dM w (.tuple #[.string ByteArray.empty,.int .i64 (-1)])):=by
 open apo in exact aj4
theorem BZ (hs:s.size<=60000) (a g cap:Nat) (hcap:s.size<=cap) (w:World) (h7:a+1006 < s.size) (hc:BytesAt w g s) (hg:g < w.heap.size) (hH:Handle w) (hz:0<=Bw (tl s a)) (hq:¬mJ (kQ (Ei (tl s a)))=(tl s a).extract 0 4):Calls prog 195 #[.slice (some ⟨g,0,none⟩) s.size cap,.int .i64 a] w (dM w (.tuple #[.string ByteArray.empty,.int .i64 (-1)])):=by
 open apn in exact aj4
theorem Ai (hs:s.size<=60000) (a g cap:Nat) (hcap:s.size<=cap) (w:World) (h7:a+1006 < s.size) (hc:BytesAt w g s) (hg:g < w.heap.size) (hH:Handle w) (hz:0<=Bw (tl s a)) (hq:mJ (kQ (Ei (tl s a)))=(tl s a).extract 0 4):Calls prog 195 #[.slice (some ⟨g,0,none⟩) s.size cap,.int .i64 a] w (dM w (.tuple #[.string (Ei (tl s a)),.int .i64 (a+4+Bw (tl s a))])):=by
 open apm in exact aj4
theorem RA (h:s.size=4):Bw s < 0:=by
 have hsz:=tO s
 have e1:ig (iI s) 0=none:=by
  cases hG:ig (iI s) 0 with
  |none=>rfl
  |some p=>
   obtain⟨n,c⟩:=p;obtain⟨k,hk0,hk,hc,_⟩:=Gi hG;omega
 unfold Bw iZ;rw [e1];simp[textOf,Rz]
theorem afd (hs:s.size<=60000) (a:Nat) (ha:a<=s.size) (g cap:Nat) (hcap:s.size<=cap) (w:World) (hc:BytesAt w g s) (hg:g < w.heap.size) (hH:Handle w):Calls prog 195 #[.slice (some ⟨g,0,none⟩) s.size cap,.int .i64 a] w (dM w (.tuple #[.string (Ig s a),.int .i64 (IB s a)])):=by
 have ht:=xQ s a;unfold Ig IB;by_cases h4:4<=(tl s a).size
 case' neg=>
  have hn:¬Wt s a:=λh=>h4 h.1
  rw [aEX hn,aEX hn];exact IC s a g cap w hs ha Aaa
 by_cases h5:(tl s a).size=4
 case' pos=>
  have hz:=RA (tl s a) h5;have hn:¬Wt s a:=λh=>absurd h.2.1 Aaa
  rw [aEX hn,aEX hn];exact BX s hs a g cap hcap w Aaa hc hg hH hz
 by_cases hz:0<=Bw (tl s a)
 case' neg=>
  have hn:¬Wt s a:=λh=>hz h.2.1
  rw [aEX hn,aEX hn]
  by_cases h6:s.size<=a+1006
  .exact DW s hs a g cap hcap w Aaa h6 hc hg hH Aaa
  .exact Cb s hs a g cap hcap w Aaa hc hg hH Aaa
 by_cases hq:mJ (kQ (Ei (tl s a)))=(tl s a).extract 0 4
 case' neg=>
  have hn:¬Wt s a:=λh=>hq h.2.2
  rw [aEX hn,aEX hn]
  by_cases h6:s.size<=a+1006
  .exact DV s hs a g cap hcap w Aaa h6 hc hg hH hz hq
  .exact BZ s hs a g cap hcap w Aaa hc hg hH hz hq
 have hy:Wt s a:=⟨h4,hz,hq⟩;rw [aE7 hy,aE7 hy];by_cases h6:s.size<=a+1006
 .exact Cc s hs a g cap hcap w Aaa h6 hc hg hH hz hq
 .exact Ai s hs a g cap hcap w Aaa hc hg hH hz hq
theorem afi (pre y:List UInt8) (n:Nat) (h:n<=4000000000):Mth.get (pre++(Mth.put n++y)) pre.length=some (n,(Mth.put n).length):=by
 have:=abS 5 n 5 0 1 0 y Aaa Aaa Aaa (.inr rfl) Aaa;unfold Mth.get;rw [List.drop_left];simpa [Mth.put] using this
theorem adq {s:ByteArray} {pre y:List UInt8} (hs:s.data.toList=pre++(Mth.put t.size++(t.data.toList++y))) (h:t.size<=1000) (i:Int) (hi:i=pre.length):j6 s i=t/\iZ s i=(pre.length+(oN t).size:Nat):=by
 subst hi;have hg:ig s (pre.length:Int)=some (t.size,(Mth.put t.size).length):=by rw [xB,hs];exact afi pre _ t.size Aaa
 have hl:=congrArg List.length hs;rw [aZ] at hl;simp only[aER,aZ] at hl;have hps:(oN t).size=(Mth.put t.size).length+t.size:=by unfold oN;rw [aE7 h];unfold rO;rw [size_of_list,aER,aZ]
 have ht:textOf s (pre.length:Int).toNat (ig s (pre.length:Int))=some (t,pre.length+(Mth.put t.size).length+t.size):=by
  rw [hg];unfold textOf;simp only[aFS];rw [aEX Aaa];congr 2
  apply aF3
  apply Array.ext'
  rw [aGf,hs];have e:pre++(Mth.put t.size++(t.data.toList++y))=(pre++Mth.put t.size)++(t.data.toList++y):=Aac
  rw [e,show pre.length+(Mth.put t.size).length=(pre++Mth.put t.size).length by simp,List.drop_left];rw [show(pre++Mth.put t.size).length+t.size - (pre++Mth.put t.size).length=t.data.toList.length by rw [aZ];omega,aGC]
 unfold j6 iZ;rw [ht];simp only[ZN,Rz];exact⟨trivial,Aaa⟩
theorem CB (h:t.size<=1000):(oN t).data.toList=Mth.put t.size++t.data.toList:=by
 unfold oN;rw [aE7 h];rfl
theorem Wp (a:Nat) (h:a+4<=s.size):(Bw (tl s a) < 0/\iZ s ((a:Int)+4) < 0)\/(0<=Bw (tl s a)/\iZ s ((a:Int)+4)=a+4+Bw (tl s a)/\j6 s ((a:Int)+4)=Ei (tl s a)):=by
 have hR:(iI (tl s a)).data.toList=(s.data.toList.drop (a+4)).take (min (s.size - a) 1006 - 4):=by
  rw [Et s a h,aGf];congr 1
  omega
 have hRs:(iI (tl s a)).size=min (s.size - a) 1006 - 4:=by rw [tO,xQ]
 unfold Bw Ei;generalize iI (tl s a)=R at *;have hl:=aZ s;have hpl:(a:Int)+4=((s.data.toList.take (a+4)).length:Int):=by rw [aFf,hl];omega
 by_cases hz:0<=iZ R 0
 .right
  obtain⟨_,_,hle,hsz,hput⟩:=iJ hz;have hq:=CB hsz;have hzl:(oN (j6 R 0)).size=(iZ R 0).toNat:=by grind [aZ]
  rw [hR] at hput;simp only[Int.toNat_zero,List.drop_zero] at hput;rw [aGB,aFU Aaa] at hput;grind [iZ,j6,adq,List.append_assoc,List.take_append_drop]
 .left
  refine⟨Aaa,?_⟩;rcases Int.lt_or_le (iZ s ((a:Int)+4)) 0 with h0|h0
  .exact h0
  .exfalso
   obtain⟨_,g2,hle,hsz,hput⟩:=iJ h0;have hq:=CB hsz;have hp2:=adh (j6 s ((a:Int)+4));have ea:((a:Int)+4).toNat=a+4:=Aaa
   rw [ea,List.drop_take] at hput;have hzl:(oN (j6 s ((a:Int)+4))).size=(iZ s ((a:Int)+4)).toNat - (a+4):=by grind [aZ]
   have hs:R.data.toList=[]++(Mth.put (j6 s ((a:Int)+4)).size++((j6 s ((a:Int)+4)).data.toList++R.data.toList.drop ((iZ s ((a:Int)+4)).toNat - (a+4)))):=by
    rw [<-aFr (Mth.put _),<-hq,hput,aF0];conv=>lhs;rw [<-aFE ((iZ s ((a:Int)+4)).toNat - (a+4)) R.data.toList]
    grind
   obtain⟨_,h2⟩:=adq hs hsz 0 rfl;rw [h2] at hz;omega
def Eh (s:ByteArray) (a:Nat):Bool:=decide (Wt s a)&&kW (Ig s a)
theorem adC (a:Nat) (h:a+4 < s.size):Eh s a=(decide (0<=iZ s ((a:Int)+4))&&kW (j6 s ((a:Int)+4))&&decide (s.extract a (a+4)=mJ (kQ (j6 s ((a:Int)+4))))):=by
 unfold Eh Ig;have hc:=CW s a 0 4 Aaa;have hs:=xQ s a;rcases Wp s a Aaa with⟨h1,h2⟩|⟨h1,h2,h3⟩
 .grind [Wt,iZ]
 .grind [Wt,iZ,kQ,tl,Ei,mJ]
theorem uf {s:ByteArray} {a:Nat} (h:Eh s a=true):a+4 < s.size/\Ig s a=j6 s ((a:Int)+4)/\IB s a=iZ s ((a:Int)+4)/\(a:Int)+4 < IB s a/\IB s a<=s.size/\kW (Ig s a)=true/\(Ig s a).size<=1000:=by
 unfold Eh at h;simp only[aES,aFo] at h;obtain⟨hf,hg⟩:=h;have hs:=xQ s a;have h4:=hf.1;have hne:(tl s a).size≠4:=λhe=>by have:=RA _ he;have:=hf.2.1;omega
 have hT:Ig s a=Ei (tl s a):=aE7 hf;have hE:IB s a=a+4+Bw (tl s a):=aE7 hf;rcases Wp s a Aaa with⟨h1,_⟩|⟨h1,h2,h3⟩
 .have:=hf.2.1;omega
 .obtain⟨_,_,k1,k2,k3⟩:=iJ (s:=s) (i:=(a:Int)+4) Aaa;have hgs:0 < (Ig s a).size:=by unfold kW at hg;simp only[aES,aFo] at hg;exact hg.1.1.1
  grind [tl,Bw,CB,aZ]
def tH (s:ByteArray):Nat->Nat->List gJ×Nat
 |0,a=>([],a)
 |f+1,a=>if Eh s a=true then(opC (Ig s a)::(tH s f (IB s a).toNat).1,(tH s f (IB s a).toNat).2) else([],a)
def gF (s:ByteArray):List gJ×Nat:=if s.size<=60000 then tH s (s.size+1) 0 else([],0)
def zP (s:ByteArray) (a:Nat) (L:List gJ):Prop:=L.length<=a/\a<=s.size/\∃f,s.size < a+f/\gF s=(L++(tH s f a).1,(tH s f a).2)
theorem Dp (h:s.size<=60000):zP s 0 []:=⟨aEM _,aE1 _,s.size+1,Aaa,by unfold gF;rw [aE7 h];simp⟩
theorem Gw {s:ByteArray} {a:Nat} {L:List gJ} (h:zP s a L) (hs:Eh s a=true):zP s (IB s a).toNat (L++[opC (Ig s a)]):=by
 obtain⟨h1,h2,f,h3,h4⟩:=h;obtain⟨p1,_,_,p2,p3,_⟩:=uf hs;refine⟨by rw [aER];simp;omega,Aaa,?_⟩;cases f with
 |zero=>omega
 |succ f=>
  refine⟨f,Aaa,?_⟩;rw [h4];simp only[tH,aE7 hs];rw [aFr];rfl
theorem CK {s:ByteArray} {a:Nat} {L:List gJ} (h:zP s a L) (hs:Eh s a=false):gF s=(L,a):=by
 obtain⟨_,h2,f,h3,h4⟩:=h;cases f with
 |zero=>omega
 |succ f=>
  rw [h4];simp only[tH,hs,Bool.false_eq_true,if_false];rw [aFZ]
theorem Rw {s:ByteArray} {a:Nat} (h:¬a+4 < s.size):Eh s a=false:=by
 cases hs:Eh s a with
 |false=>rfl
 |true=>exact absurd (uf hs).1 h
end Go.Proofs.YtbolgdleijjgfaaGreatDoor
