/- Parts. -/
import Derived.Test.YtbolgdleijjgfaaGreatDoorRf11
namespace Go.Proofs.YtbolgdleijjgfaaGreatDoor
open Go.Proofs.Tryz
set_option maxHeartbeats 8000000
set_option maxRecDepth 100000
open Go.RowKit
open Mth
variable (s:ByteArray) {t:ByteArray}
theorem JD (m:Mg) (w:World) (hs:m.k.size<=maxLen) (h:bY m=false):Calls prog 149 #[oJ m] w (dU w (.string ByteArray.empty)):=by
 have HO:=Hq (λw1=>lq m w1 hs);rw [h] at HO;clear h hs;obtain⟨K,F,T,I,L,k,N⟩:=m;go_in
 exact ahX
theorem Hr (m:Mg) (w:World) (hs:m.k.size<=maxLen) (h:bY m=true):Calls prog 149 #[oJ m] w (dU w (.string (Bd m))):=by
 have hK:=afl h;have HO:=Hq (λw1=>lq m w1 hs);rw [h] at HO;clear h hs;obtain⟨K,F,T,I,L,k,N⟩:=m;obtain⟨hK0,hK2⟩:=hK;dsimp only at hK0 hK2
 have hw8:IntKind.u8.wrap K=K:=by
  have h3:K=0\/K=1\/K=2:=Aaa
  rcases h3 with rfl|rfl|rfl<;>rfl
 show Calls prog 149 #[oJ ⟨K,F,T,I,L,k,N⟩] w (dU w (.string (kb K++mQ F++mQ T++mQ I++mQ L++pQ k++mQ N)))
 have N1:=Hq (λw1=>lV F w1);have N2:=Hq (λw1=>lV T w1);have N3:=Hq (λw1=>lV I w1);have N4:=Hq (λw1=>lV L w1);have N5:=Hq (λw1=>xA k w1);have N6:=Hq (λw1=>lV N w1);have s1:=nU F;have s2:=nU T;have s3:=nU I;have s4:=nU L;have s5:=CR k;have s6:=nU N;have s0:=WL K;have HCV:=Hq (λw1 g=>Yf w1 g K ⟨hK0,hK2⟩);generalize mQ F=bF at *;generalize mQ T=bT at *;generalize mQ I=bI at *;generalize mQ L=bL at *;generalize pQ k=bk at *;generalize mQ N=bN at *;generalize kb K=bK at *;have a1:=λw1=>aFY (P:=prog) w1 bK bF Aaa
 have a2:=λw1=>aFY (P:=prog) w1 (bK++bF) bT (by rw [ByteArray.size_append];omega)
 have a3:=λw1=>aFY (P:=prog) w1 (bK++bF++bT) bI Abn
 have a4:=λw1=>aFY (P:=prog) w1 (bK++bF++bT++bI) bL Abn
 have a5:=λw1=>aFY (P:=prog) w1 (bK++bF++bT++bI++bL) bk Abn
 have a6:=λw1=>aFY (P:=prog) w1 (bK++bF++bT++bI++bL++bk) bN Abn
 have HA:=Hq (And.intro a1 (And.intro a2 (And.intro a3 (And.intro a4 (And.intro a5 a6)))));clear s0 s1 s2 s3 s4 s5 s6 a1 a2 a3 a4 a5 a6 hK0 hK2;go_in
 go_wp2_with fail;refine(HO _).mono ?_;rintro e w1 ⟨rfl,hb1⟩;have hA:=aJ (aEP w _) hb1;have hB:=(au w _).trans (hb1.mono Aac);obtain⟨c0,c1,c2,c3,c4,c5,c6⟩:=uK hA;have hz:=dx hA;clear hb1;go_upto_region 3 with fail;refine wp_at (λV hV=>?_);have hblk:V.heap[w.heap.size]?=some (.cells (bX K F T I L k N) 70 (0,0)):=by rw [hV];exact hA
 have xD:=Hq (show aH w V by rw [hV];exact hB);have hgV:=dx hblk;obtain⟨p0,p1,p2,p3,p4,p5,p6⟩:=uK hblk;clear hV hblk hA hB c0 c1 c2 c3 c4 c5 c6 hz;open anz in exact OW
theorem Ho (m:Mg) (w:World) (hs:m.k.size<=maxLen):Calls prog 149 #[oJ m] w (dU w (.string (jR m))):=by
 cases h:bY m
 .rw [CK h];exact JD m w hs h
 .rw [zu h];exact Hr m w hs h
theorem K8 (o:gP) (w:World) (hs:o.k.size<=maxLen) (hm:o.m.k.size<=maxLen):Calls prog 150 #[jX o] w (dU w (.bool (bQ o))):=by
 have HO:=Hq (λw1=>jK o w1 hs hm);generalize bQ o=r at *;obtain⟨K,no,k,n,⟨mK,mF,mT,mI,mL,mk,mN⟩⟩:=o;go_in
 exact ahU
theorem Nu (o:gP) (w:World) (hs:o.k.size<=maxLen) (hm:o.m.k.size<=maxLen) (h:bQ o=false):Calls prog 125 #[jX o] w (dU w (.string ByteArray.empty)):=by
 have HO:=Hq (λw1=>K8 o w1 hs hm);rw [h] at HO;clear h hs hm;obtain⟨K,no,k,n,⟨mK,mF,mT,mI,mL,mk,mN⟩⟩:=o;go_in
 exact ahX
theorem JE (o:gP) (w:World) (hs:o.k.size<=maxLen) (hm:o.m.k.size<=maxLen) (h:bQ o=true):Calls prog 125 #[jX o] w (dU w (.string (Bl o))):=by
 have hK:=Y8 h;have HO:=Hq (λw1=>K8 o w1 hs hm);have NM:=Hq (λw1=>Ho o.m w1 hm);rw [h] at HO;clear h hs hm;obtain⟨K,no,k,n,m⟩:=o;obtain⟨hK0,hK6⟩:=hK;dsimp only at hK0 hK6 NM;have hw8:=Vq K hK0 hK6;show Calls prog 125 #[jX ⟨K,no,k,n,m⟩] w (dU w (.string (kb K++mQ no++pQ k++mQ n++pQ (jR m))))
 have N1:=Hq (λw1=>lV no w1);have N2:=Hq (λw1=>xA k w1);have N3:=Hq (λw1=>lV n w1);have N4:=Hq (λw1=>xA (jR m) w1);have s1:=nU no;have s2:=CR k;have s3:=nU n;have s4:=CR (jR m);have s0:=WL K;have HCV:=Hq (λw1 g=>TI w1 g K ⟨hK0,hK6⟩);generalize mQ no=b1 at *;generalize pQ k=b2 at *;generalize mQ n=b3 at *;generalize pQ (jR m)=b4 at *;generalize jR m=bM at *;generalize kb K=bK at *;obtain⟨mK,mF,mT,mI,mL,mk,mN⟩:=m;have a1:=λw1=>aFY (P:=prog) w1 bK b1 Aaa
 have a2:=λw1=>aFY (P:=prog) w1 (bK++b1) b2 Abn
 have a3:=λw1=>aFY (P:=prog) w1 (bK++b1++b2) b3 Abn
 have a4:=λw1=>aFY (P:=prog) w1 (bK++b1++b2++b3) b4 Abn
 have HA:=Hq (And.intro a1 (And.intro a2 (And.intro a3 a4)));clear s0 s1 s2 s3 s4 a1 a2 a3 a4 hK0 hK6;go_in
 go_wp2_with fail;refine(HO _).mono ?_;rintro e w1 ⟨rfl,hb1⟩;have hA:=aJ (aEP w _) hb1;have hB:=(au w _).trans (hb1.mono Aac);obtain⟨c0,c1,c2,c3,c4,c5,c6,c7,c8,c9,c10⟩:=Ww hA;have hz:=dx hA;clear hb1;go_upto_region 3 with fail;refine wp_at (λV hV=>?_);have hblk:V.heap[w.heap.size]?=some (.cells (bV K no k n mK mF mT mI mL mk mN) 73 (0,0)):=by rw [hV];exact hA
 have xD:=Hq (show aH w V by rw [hV];exact hB);have hgV:=dx hblk;obtain⟨p0,p1,p2,p3,p4,p5,p6,p7,p8,p9,pz⟩:=Ww hblk;clear hV hblk hA hB c0 c1 c2 c3 c4 c5 c6 c7 c8 c9 c10 hz;open anA in exact OW
theorem ZF (o:gP) (w:World) (hs:o.k.size<=maxLen) (hm:o.m.k.size<=maxLen):Calls prog 125 #[jX o] w (dU w (.string (wW o))):=by
 cases h:bQ o
 .rw [QI h];exact Nu o w hs hm h
 .rw [CP h];exact JE o w hs hm h
theorem GQ (w:World):Calls prog 124 #[.string ByteArray.empty] w (dU w (.tuple #[.agg (bX 0 0 0 0 0 ⟨#[]⟩ 0),.bool false])):=by
 go_in
 go_wp2_with fail;exact aEY (v:= .tuple #[.agg (bX 0 0 0 0 0 ⟨#[]⟩ 0),.bool false]) (by simp[results,results124,go_sem]) rfl ⟨rfl,au w _⟩
theorem Em (hs:s.size<=maxLen) (h0:0 < s.size) (w:World):Calls prog 124 #[.string s] w (dU w (D9 s)):=by
 have HN:=Hq (λw1=>afn s hs w1);have HT:=Hq (λw1=>Nz s (gL s 4) hs w1);have HG:=Hq (λw1=>Nv s (jg s (gL s 4)) hs w1)
 have hcs:(cand s).k.size<=maxLen:=by
  show(kN s (gL s 4)).size<=maxLen
  by_cases h:0<=jg s (gL s 4)
  .exact aEU (iO h).2.2.2.1 Aaj
  .unfold jg at h;unfold kN;cases hG:textOf s (gL s 4).toNat (iB s (gL s 4)) with
   |none=>simp[ZR]
   |some p=>rw [hG] at h;exact absurd (by simp[Rz]) h
 have HP:=Hq (λw1=>Ho (cand s) w1 hcs);have HO:=Hq (FE h0);open apV in exact aw4
theorem UY (hs:s.size<=maxLen) (w:World):Calls prog 124 #[.string s] w (dU w (D9 s)):=by
 by_cases h0:s.size=0
 .obtain rfl:=eq_empty s h0;rw [Ez (show kE ByteArray.empty=false by unfold kE;simp)];exact GQ w
 .exact Em s hs Aaa w
def Ma (s:ByteArray):Value:= .tuple #[jX (getOp s),.bool (lH s)]
theorem Wy {s:ByteArray} (h:lH s=false):Ma s= .tuple #[.agg (bV 0 0 ⟨#[]⟩ 0 0 0 0 0 0 ⟨#[]⟩ 0),.bool false]:=by
 unfold Ma getOp;rw [h,aE2 Aac];rfl
theorem Jp (w:World):Calls prog 95 #[.string ByteArray.empty] w (dU w (.tuple #[.agg (bV 0 0 ⟨#[]⟩ 0 0 0 0 0 0 ⟨#[]⟩ 0),.bool false])):=by
 go_in
 go_wp2_with fail;exact aEY (v:= .tuple #[.agg (bV 0 0 ⟨#[]⟩ 0 0 0 0 0 0 ⟨#[]⟩ 0),.bool false]) (by simp[results,results95,go_sem]) rfl ⟨rfl,au w _⟩
theorem GX (hs:s.size<=maxLen) (h0:0 < s.size) (w:World):Calls prog 95 #[.string s] w (dU w (Ma s)):=by
 have yD:=Hq (λw1=>Nv s 1 hs w1);have HT1:=Hq (λw1=>Nz s (kJ s 1) hs w1);have Ii:Hid (∀w1:World,Calls prog 123 #[.string s,.int .i64 (jg s (kJ s 1))] w1 (dU w1 (.tuple #[.int .i64 (vF s (jg s (kJ s 1))),.int .i64 (KD s)]))):=λw1=>Nv s (jg s (kJ s 1)) hs w1
 have HT2:Hid (∀w1:World,Calls prog 94 #[.string s,.int .i64 (KD s)] w1 (dU w1 (.tuple #[.string (BL s),.int .i64 (MW s)]))):=λw1=>Nz s (KD s) hs w1
 have hbz:(BL s).size<=maxLen:=aEU (um s (KD s)) Aaj;have HG:=Hq (λw1=>UY (BL s) hbz w1);unfold D9 at HG;have HP:=Hq (λw1=>ZF (opC s) w1 (aEU (um s (kJ s 1)) Aaj) (aEU (ac6 (BL s)) Aaj));have HO:=Hq (Yo h0);have hC:opC s=⟨s[0].toNat,vF s 1,kN s (kJ s 1),vF s (jg s (kJ s 1)),nJ (BL s)⟩:=by unfold opC;rw [Me h0]
 have HM:=Hq (show lH s=true->Ma s= .tuple #[jX (opC s),.bool true] from λh=>by unfold Ma getOp;rw [h,aFc rfl]);have HZ:=Hq (show lH s=false->Ma s= .tuple #[.agg (bV 0 0 ⟨#[]⟩ 0 0 0 0 0 0 ⟨#[]⟩ 0),.bool false] from Wy);rw [show rV s=(decide ((BL s).size=0)||kE (BL s)) from rfl] at HO;rw [hC] at HP HM HO;clear hbz hC;have hne:=kW s h0;have hi0:(0:Int) < (s.size:Int):=Aaa
 generalize Ma s=RES at *;generalize lH s=OK at *;generalize nJ (BL s)=m at *;generalize kE (BL s)=mo at *;open atl in exact agH
theorem ZC (hs:s.size<=maxLen) (w:World):Calls prog 95 #[.string s] w (dU w (Ma s)):=by
 by_cases h0:s.size=0
 .obtain rfl:=eq_empty s h0;rw [Wy (show lH ByteArray.empty=false by unfold lH;simp)];exact Jp w
 .exact GX s hs Aaa w
def iN (s:ByteArray):ByteArray:=s.extract 4 (min s.size 1006)
def Ep (s:ByteArray):ByteArray:=kN (iN s) 0
def BI (s:ByteArray):Int:=jg (iN s) 0
theorem uh:(iN s).size=min s.size 1006 - 4:=by
 unfold iN;rw [aGw];omega
theorem afD (n:Nat) (h:n<=1000):(Mth.put n).length<=2:=by
 unfold Mth.put;by_cases h1:n<=127
 .rw [jG _ _ h1];simp
 .rw [nT _ _ h1,jG _ _ Aaa];simp
theorem adf:(pQ s).size<=1002:=by
 unfold pQ;split
 .rename_i h
  unfold rY;have:=afD s.size h;rw [size_of_list,aEW,bf];omega
 .decide
theorem Gz (i:Int):(kN s i).size<=1000:=by
 exact ahO
theorem UK (i:Int):jg s i<=s.size:=by
 by_cases h:0<=jg s i
 .exact(iO h).2.2.1
 .omega
theorem ae7 (pre y:List UInt8) (n:Nat) (h:n<=4000000000):Mth.get (pre++(Mth.put n++y)) pre.length=some (n,(Mth.put n).length):=by
 have:=abN 5 n 5 0 1 0 y Aaa Aaa Aaa (.inr rfl) Aaa;unfold Mth.get;rw [List.drop_left];simpa [Mth.put] using this
theorem ado {s:ByteArray} {pre y:List UInt8} (hs:s.data.toList=pre++(Mth.put t.size++(t.data.toList++y))) (h:t.size<=1000) (i:Int) (hi:i=pre.length):kN s i=t/\jg s i=(pre.length+(pQ t).size:Nat):=by
 subst hi;have hg:iB s (pre.length:Int)=some (t.size,(Mth.put t.size).length):=by rw [xH,hs];exact ae7 pre _ t.size Aaa
 have hl:=congrArg List.length hs;rw [bf] at hl;simp only[aEW,bf] at hl;have hps:(pQ t).size=(Mth.put t.size).length+t.size:=by unfold pQ;rw [aFc h];unfold rY;rw [size_of_list,aEW,bf]
 have ht:textOf s (pre.length:Int).toNat (iB s (pre.length:Int))=some (t,pre.length+(Mth.put t.size).length+t.size):=by
  rw [hg];unfold textOf;simp only[aFX];rw [aE2 Aaa];congr 2
  apply aF8
  apply Array.ext'
  rw [aGl,hs];have e:pre++(Mth.put t.size++(t.data.toList++y))=(pre++Mth.put t.size)++(t.data.toList++y):=Aac
  rw [e,show pre.length+(Mth.put t.size).length=(pre++Mth.put t.size).length by simp,List.drop_left];rw [show(pre++Mth.put t.size).length+t.size - (pre++Mth.put t.size).length=t.data.toList.length by rw [bf];omega,aGI]
 unfold kN jg;rw [ht];simp only[ZR,Rz];exact⟨trivial,Aaa⟩
theorem CQ (h:t.size<=1000):(pQ t).data.toList=Mth.put t.size++t.data.toList:=by
 unfold pQ;rw [aFc h];rfl
end Go.Proofs.YtbolgdleijjgfaaGreatDoor
