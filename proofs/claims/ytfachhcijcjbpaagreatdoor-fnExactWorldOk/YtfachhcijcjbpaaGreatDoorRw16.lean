/- Parts. -/
import Derived.Test.YtfachhcijcjbpaaGreatDoorRw4
import Derived.Test.YtfachhcijcjbpaaGreatDoorRw14
namespace Go.Proofs.YtfachhcijcjbpaaGreatDoor
open Go.Proofs.Tryz
set_option maxHeartbeats 8000000
set_option maxRecDepth 100000
open Go.RowKit
open Mth
variable (s:ByteArray) {w:World} {g:Nat} {t:ByteArray}
theorem JD (m:Mg) (w:World) (hs:m.k.size<=maxLen) (h:bJ m=false):Calls prog 133 #[nT m] w (dK w (.string ByteArray.empty)):=by
 have HO:=Hq (λw1=>kD m w1 hs);rw [h] at HO;clear h hs;obtain⟨K,F,T,I,L,k,N⟩:=m;go_in
 exact ah9
theorem GX (m:Mg) (w:World) (hs:m.k.size<=maxLen) (h:bJ m=true):Calls prog 133 #[nT m] w (dK w (.string (AJ m))):=by
 have hK:=afz h;have HO:=Hq (λw1=>kD m w1 hs);rw [h] at HO;clear h hs;obtain⟨K,F,T,I,L,k,N⟩:=m;obtain⟨hK0,hK2⟩:=hK;dsimp only at hK0 hK2
 have hw8:IntKind.u8.wrap K=K:=by
  have h3:K=0\/K=1\/K=2:=Aaa
  rcases h3 with rfl|rfl|rfl<;>rfl
 show Calls prog 133 #[nT ⟨K,F,T,I,L,k,N⟩] w (dK w (.string (kb K++lW F++lW T++lW I++lW L++oh k++lW N)))
 have N1:=Hq (λw1=>lD F w1);have N2:=Hq (λw1=>lD T w1);have N3:=Hq (λw1=>lD I w1);have N4:=Hq (λw1=>lD L w1);have N5:=Hq (λw1=>wG k w1);have N6:=Hq (λw1=>lD N w1);have s1:=nu F;have s2:=nu T;have s3:=nu I;have s4:=nu L;have s5:=Cv k;have s6:=nu N;have s0:=Xf K;have HCV:=Hq (λw1 g=>Yd w1 g K ⟨hK0,hK2⟩);generalize lW F=bF at *;generalize lW T=bT at *;generalize lW I=bI at *;generalize lW L=bL at *;generalize oh k=bk at *;generalize lW N=bN at *;generalize kb K=bK at *;have a1:=λw1=>aFB (P:=prog) w1 bK bF Aaa
 have a2:=λw1=>aFB (P:=prog) w1 (bK++bF) bT (by rw [ByteArray.size_append];omega)
 have a3:=λw1=>aFB (P:=prog) w1 (bK++bF++bT) bI Abl
 have a4:=λw1=>aFB (P:=prog) w1 (bK++bF++bT++bI) bL Abl
 have a5:=λw1=>aFB (P:=prog) w1 (bK++bF++bT++bI++bL) bk Abl
 have a6:=λw1=>aFB (P:=prog) w1 (bK++bF++bT++bI++bL++bk) bN Abl
 have HA:=Hq (And.intro a1 (And.intro a2 (And.intro a3 (And.intro a4 (And.intro a5 a6)))));clear s0 s1 s2 s3 s4 s5 s6 a1 a2 a3 a4 a5 a6 hK0 hK2;go_in
 go_wp2_with fail;refine(HO _).mono ?_;rintro e w1 ⟨rfl,hb1⟩;have hA:=aI (aEu w _) hb1;have hB:=(au w _).trans (hb1.mono Aac);obtain⟨c0,c1,c2,c3,c4,c5,c6⟩:=uf hA;have hz:=cu hA;clear hb1;go_upto_region 3 with fail;refine wp_at (λV hV=>?_);have hblk:V.heap[w.heap.size]?=some (.cells (bH K F T I L k N) 104 (0,0)):=by rw [hV];exact hA
 have wJ:=Hq (show aG w V by rw [hV];exact hB);have hgV:=cu hblk;obtain⟨p0,p1,p2,p3,p4,p5,p6⟩:=uf hblk;clear hV hblk hA hB c0 c1 c2 c3 c4 c5 c6 hz;open anR in exact Pb
theorem GU (m:Mg) (w:World) (hs:m.k.size<=maxLen):Calls prog 133 #[nT m] w (dK w (.string (jy m))):=by
 cases h:bJ m
 .rw [Cq h];exact JD m w hs h
 .rw [ze h];exact GX m w hs h
theorem K7 (o:gD) (w:World) (hs:o.k.size<=maxLen) (hm:o.m.k.size<=maxLen):Calls prog 134 #[jF o] w (dK w (.bool (bC o))):=by
 have HO:=Hq (λw1=>jl o w1 hs hm);generalize bC o=r at *;obtain⟨K,no,k,n,⟨mK,mF,mT,mI,mL,mk,mN⟩⟩:=o;go_in
 exact ah6
theorem NI (o:gD) (w:World) (hs:o.k.size<=maxLen) (hm:o.m.k.size<=maxLen) (h:bC o=false):Calls prog 94 #[jF o] w (dK w (.string ByteArray.empty)):=by
 have HO:=Hq (λw1=>K7 o w1 hs hm);rw [h] at HO;clear h hs hm;obtain⟨K,no,k,n,⟨mK,mF,mT,mI,mL,mk,mN⟩⟩:=o;go_in
 exact ah9
theorem JE (o:gD) (w:World) (hs:o.k.size<=maxLen) (hm:o.m.k.size<=maxLen) (h:bC o=true):Calls prog 94 #[jF o] w (dK w (.string (AR o))):=by
 have hK:=YW h;have HO:=Hq (λw1=>K7 o w1 hs hm);have NM:=Hq (λw1=>GU o.m w1 hm);rw [h] at HO;clear h hs hm;obtain⟨K,no,k,n,m⟩:=o;obtain⟨hK0,hK6⟩:=hK;dsimp only at hK0 hK6 NM;have hw8:=VK K hK0 hK6;show Calls prog 94 #[jF ⟨K,no,k,n,m⟩] w (dK w (.string (kb K++lW no++oh k++lW n++oh (jy m))))
 have N1:=Hq (λw1=>lD no w1);have N2:=Hq (λw1=>wG k w1);have N3:=Hq (λw1=>lD n w1);have N4:=Hq (λw1=>wG (jy m) w1);have s1:=nu no;have s2:=Cv k;have s3:=nu n;have s4:=Cv (jy m);have s0:=Xf K;have HCV:=Hq (λw1 g=>Ub w1 g K ⟨hK0,hK6⟩);generalize lW no=b1 at *;generalize oh k=b2 at *;generalize lW n=b3 at *;generalize oh (jy m)=b4 at *;generalize jy m=bM at *;generalize kb K=bK at *;obtain⟨mK,mF,mT,mI,mL,mk,mN⟩:=m;have a1:=λw1=>aFB (P:=prog) w1 bK b1 Aaa
 have a2:=λw1=>aFB (P:=prog) w1 (bK++b1) b2 Abl
 have a3:=λw1=>aFB (P:=prog) w1 (bK++b1++b2) b3 Abl
 have a4:=λw1=>aFB (P:=prog) w1 (bK++b1++b2++b3) b4 Abl
 have HA:=Hq (And.intro a1 (And.intro a2 (And.intro a3 a4)));clear s0 s1 s2 s3 s4 a1 a2 a3 a4 hK0 hK6;go_in
 go_wp2_with fail;refine(HO _).mono ?_;rintro e w1 ⟨rfl,hb1⟩;have hA:=aI (aEu w _) hb1;have hB:=(au w _).trans (hb1.mono Aac);obtain⟨c0,c1,c2,c3,c4,c5,c6,c7,c8,c9,c10⟩:=WU hA;have hz:=cu hA;clear hb1;go_upto_region 3 with fail;refine wp_at (λV hV=>?_);have hblk:V.heap[w.heap.size]?=some (.cells (bE K no k n mK mF mT mI mL mk mN) 106 (0,0)):=by rw [hV];exact hA
 have wJ:=Hq (show aG w V by rw [hV];exact hB);have hgV:=cu hblk;obtain⟨p0,p1,p2,p3,p4,p5,p6,p7,p8,p9,nI⟩:=WU hblk;clear hV hblk hA hB c0 c1 c2 c3 c4 c5 c6 c7 c8 c9 c10 hz;open anS in exact Pb
theorem ZA (o:gD) (w:World) (hs:o.k.size<=maxLen) (hm:o.m.k.size<=maxLen):Calls prog 94 #[jF o] w (dK w (.string (wB o))):=by
 cases h:bC o
 .rw [QY h];exact NI o w hs hm h
 .rw [Cr h];exact JE o w hs hm h
theorem GD (w:World):Calls prog 93 #[.string ByteArray.empty] w (dK w (.tuple #[.agg (bH 0 0 0 0 0 ⟨#[]⟩ 0),.bool false])):=by
 go_in
 go_wp2_with fail;exact aEE (v:= .tuple #[.agg (bH 0 0 0 0 0 ⟨#[]⟩ 0),.bool false]) (by simp[results,results93,go_sem]) rfl ⟨rfl,au w _⟩
theorem D9 (hs:s.size<=maxLen) (h0:0 < s.size) (w:World):Calls prog 93 #[.string s] w (dK w (DU s)):=by
 have HN:=Hq (λw1=>afA s hs w1);have HT:=Hq (λw1=>NV s (fV s 4) hs w1);have HG:=Hq (λw1=>NJ s (iR s (fV s 4)) hs w1)
 have hcs:(cand s).k.size<=maxLen:=by
  show(jU s (fV s 4)).size<=maxLen
  by_cases h:0<=iR s (fV s 4)
  .exact aEA (iD h).2.2.2.1 Aai
  .unfold iR at h;unfold jU;cases hG:textOf s (fV s 4).toNat (gV s (fV s 4)) with
   |none=>simp[ZX]
   |some p=>rw [hG] at h;exact absurd (by simp[Sg]) h
 have HP:=Hq (λw1=>GU (cand s) w1 hcs);have HO:=Hq (Fv h0);open ap7 in exact aww
theorem Vj (hs:s.size<=maxLen) (w:World):Calls prog 93 #[.string s] w (dK w (DU s)):=by
 by_cases h0:s.size=0
 .obtain rfl:=eq_empty s h0;rw [El (show jP ByteArray.empty=false by unfold jP;simp)];exact GD w
 .exact D9 s hs Aaa w
def Mj (s:ByteArray):Value:= .tuple #[jF (getOp s),.bool (kN s)]
theorem WW {s:ByteArray} (h:kN s=false):Mj s= .tuple #[.agg (bE 0 0 ⟨#[]⟩ 0 0 0 0 0 0 ⟨#[]⟩ 0),.bool false]:=by
 unfold Mj getOp;rw [h,aEG Aac];rfl
theorem Jp (w:World):Calls prog 64 #[.string ByteArray.empty] w (dK w (.tuple #[.agg (bE 0 0 ⟨#[]⟩ 0 0 0 0 0 0 ⟨#[]⟩ 0),.bool false])):=by
 go_in
 go_wp2_with fail;exact aEE (v:= .tuple #[.agg (bE 0 0 ⟨#[]⟩ 0 0 0 0 0 0 ⟨#[]⟩ 0),.bool false]) (by simp[results,results64,go_sem]) rfl ⟨rfl,au w _⟩
theorem GI (hs:s.size<=maxLen) (h0:0 < s.size) (w:World):Calls prog 64 #[.string s] w (dK w (Mj s)):=by
 have vL:=Hq (λw1=>NJ s 1 hs w1);have HT1:=Hq (λw1=>NV s (jR s 1) hs w1);have Dw:Hid (∀w1:World,Calls prog 92 #[.string s,.int .i64 (iR s (jR s 1))] w1 (dK w1 (.tuple #[.int .i64 (uN s (iR s (jR s 1))),.int .i64 (KD s)]))):=λw1=>NJ s (iR s (jR s 1)) hs w1
 have HT2:Hid (∀w1:World,Calls prog 63 #[.string s,.int .i64 (KD s)] w1 (dK w1 (.tuple #[.string (Bw s),.int .i64 (M8 s)]))):=λw1=>NV s (KD s) hs w1
 have hbz:(Bw s).size<=maxLen:=aEA (tC s (KD s)) Aai;have HG:=Hq (λw1=>Vj (Bw s) hbz w1);unfold DU at HG;have HP:=Hq (λw1=>ZA (opC s) w1 (aEA (tC s (jR s 1)) Aai) (aEA (ac9 (Bw s)) Aai));have HO:=Hq (Yo h0);have hC:opC s=⟨s[0].toNat,uN s 1,jU s (jR s 1),uN s (iR s (jR s 1)),mH (Bw s)⟩:=by unfold opC;rw [Mq h0]
 have HM:=Hq (show kN s=true->Mj s= .tuple #[jF (opC s),.bool true] from λh=>by unfold Mj getOp;rw [h,aER rfl]);have HZ:=Hq (show kN s=false->Mj s= .tuple #[.agg (bE 0 0 ⟨#[]⟩ 0 0 0 0 0 0 ⟨#[]⟩ 0),.bool false] from WW);rw [show qW s=(decide ((Bw s).size=0)||jP (Bw s)) from rfl] at HO;rw [hC] at HP HM HO;clear hbz hC;have hne:=ku s h0;have hi0:(0:Int) < (s.size:Int):=Aaa
 generalize Mj s=RES at *;generalize kN s=OK at *;generalize mH (Bw s)=m at *;generalize jP (Bw s)=mo at *;open asU in exact agQ
theorem Zy (hs:s.size<=maxLen) (w:World):Calls prog 64 #[.string s] w (dK w (Mj s)):=by
 by_cases h0:s.size=0
 .obtain rfl:=eq_empty s h0;rw [WW (show kN ByteArray.empty=false by unfold kN;simp)];exact Jp w
 .exact GI s hs Aaa w
def iB (s:ByteArray):ByteArray:=s.extract 4 (min s.size 1006)
def Ec (s:ByteArray):ByteArray:=jU (iB s) 0
def Bj (s:ByteArray):Int:=iR (iB s) 0
theorem tq:(iB s).size=min s.size 1006 - 4:=by
 unfold iB;rw [aF6];omega
theorem afN (n:Nat) (h:n<=1000):(Mth.put n).length<=2:=by
 unfold Mth.put;by_cases h1:n<=127
 .rw [jg _ _ h1];simp
 .rw [mZ _ _ h1,jg _ _ Aaa];simp
theorem adi:(oh s).size<=1002:=by
 unfold oh;split
 .rename_i h
  unfold ru;have:=afN s.size h;rw [size_of_list,aEC,aZ];omega
 .decide
theorem Gj (i:Int):(jU s i).size<=1000:=by
 exact ah0
theorem Vd (i:Int):iR s i<=s.size:=by
 by_cases h:0<=iR s i
 .exact(iD h).2.2.1
 .omega
def BytesAt (w:World) (g:Nat) (s:ByteArray):Prop:=∀i (hi:i < s.size),w.cell? ⟨g,i,none⟩=some (.int .u8 (s[i].toNat:Int))
theorem BytesAt.below {w':World} {s:ByteArray} (h:BytesAt w g s) (hg:g < w.heap.size) (hb:aG w w'):BytesAt w' g s:=λi hi=>by rw [(CV hb).1 g i hg];exact h i hi
theorem aeV (b off i:Nat):(⟨b,off,none⟩:Addr).add i=⟨b,off+i,none⟩:=by unfold Addr.add;split<;>simp_all
theorem uj {s:ByteArray} (h:BytesAt w g s) (lo n cap:Nat) (hn:lo+n<=s.size):(convert 178 9 (.slice (some ⟨g,lo,none⟩) n cap)).run prog w= .ok (.string (s.extract lo (lo+n))) w:=by
 have hl:(s.extract lo (lo+n)).data.toList.length=n:=by rw [aZ,aF6];omega
 have hc:=aGi (P:=prog) w 178 9 5 ⟨g,lo,none⟩ cap (s.extract lo (lo+n)).data.toList underlying178 underlying5 underlying9 (λj hj=>by
  rw [aeV,h (lo+j) Aaa]
  congr 3
  have e:(s.extract lo (lo+n)).data.toList[j]=s.data.toList[lo+j]'(by rw [aZ];omega):=by
   simp only[aFV];rw [List.getElem_take,List.getElem_drop]
  rw [e]
  rfl)
 rw [hl] at hc;exact hc
theorem Ua (w:World):∃(cap:Nat) (w1:World),(convert 9 178 (.string s)).run prog w= .ok (.slice (some ⟨w.heap.size,0,none⟩) s.size cap) w1/\s.size<=cap/\BytesAt w1 w.heap.size s/\w.heap.size < w1.heap.size/\aG w w1:=by
 refine⟨_,_,run_bytes_of_string (P:=prog) w 9 178 5 s underlying9 underlying178 underlying5,?_,?_,?_,?_⟩
 .exact grownCap_ge w s.size 0 5
 .intro i hi;have h:=World.cell?_alloc_mark w.drew (bytesRow s (grownCap w s.size 0 5)) 5 ((bytesRow s (grownCap w s.size 0 5)).size,(bytesRow s (grownCap w s.size 0 5)).size+1) i;refine Eq.trans h ?_;rw [bytesRow_at s _ i hi];rfl
 .simp
 .exact((aEK _ w).drew).alloc (aEx _) _
def tl (s:ByteArray) (a:Nat):ByteArray:=s.extract a s.size
theorem wY (a:Nat):(tl s a).size=s.size - a:=by unfold tl;rw [aF6];omega
theorem CQ (a i j:Nat) (h:a+j<=s.size):(tl s a).extract i j=s.extract (a+i) (a+j):=by
 apply aFP
 apply Array.ext'
 unfold tl;rw [aFV,aFV,aFV];rw [List.drop_take,List.drop_drop,aGg];congr 1
 omega
def WV (s:ByteArray) (a:Nat):Prop:=4<=(tl s a).size/\0<=Bj (tl s a)/\lZ (kE (Ec (tl s a)))=(tl s a).extract 0 4
instance (s:ByteArray) (a:Nat):Decidable (WV s a):=by unfold WV;exact inferInstance
def Il (s:ByteArray) (a:Nat):ByteArray:=if WV s a then Ec (tl s a) else ByteArray.empty
def IV (s:ByteArray) (a:Nat):Int:=if WV s a then a+4+Bj (tl s a) else -1
theorem En (a:Nat) (h:a+4<=s.size):iB (tl s a)=s.extract (a+4) (a+min (s.size - a) 1006):=by
 unfold iB;rw [wY,CQ _ _ _ _ Aaa]
theorem IX (a g cap:Nat) (w:World) (hs:s.size<=60000) (ha:a<=s.size) (h:s.size < a+4):Calls prog 200 #[.slice (some ⟨g,0,none⟩) s.size cap,.int .i64 a] w (dK w (.tuple #[.string ByteArray.empty,.int .i64 (-1)])):=by
 have h1:(s.size:Int)<=(a:Int)+1006:=Aaa
 have h2:(s.size:Int) - (a:Int) < 4:=Aaa
 clear h;go_in
 go_wp2_with fail;exact aEE (v:= .tuple #[.string ⟨#[]⟩,.int .i64 (-1)]) Acd rfl ⟨rfl,aEK _ _⟩
theorem BM (hs:s.size<=60000) (a g cap:Nat) (hcap:s.size<=cap) (w:World) (h4:s.size=a+4) (hc:BytesAt w g s) (_hg:g < w.heap.size) (hH:Handle w) (hz:Bj (tl s a) < 0):Calls prog 200 #[.slice (some ⟨g,0,none⟩) s.size cap,.int .i64 a] w (dK w (.tuple #[.string ByteArray.empty,.int .i64 (-1)])):=by
 have hr:(convert 178 9 (.slice (some ⟨g,0,none⟩) 0 0)).run prog w= .ok (.string (iB (tl s a))) w:=by
  rw [En s a Aaa];have h:=uj hc 0 0 0 Aaa;rw [h];congr 2
  rw [show min (s.size - a) 1006=4 by omega];apply aFP
  apply Array.ext'
  rw [aFV,aFV];simp
 have ha:a<=59996:=Aaa
 have h1:(a:Int)+4<=(a:Int)+1006:=Aaa
 have h2:¬((a:Int)+4 - (a:Int) < 4):=Aaa
 have hcap2:(a:Int)+4<=(cap:Int):=Aaa
 have hmn:min (4:Int) 1006=4:=rfl;have hmo:min ((a:Int)+4) ((a:Int)+1006)=(a:Int)+4:=Int.min_eq_left Aaa;open am4 in exact aeD
theorem DR (hs:s.size<=60000) (a g cap:Nat) (hcap:s.size<=cap) (w:World) (h5:a+5<=s.size) (h6:s.size<=a+1006) (hc:BytesAt w g s) (_hg:g < w.heap.size) (hH:Handle w) (hz:Bj (tl s a) < 0):Calls prog 200 #[.slice (some ⟨g,0,none⟩) s.size cap,.int .i64 a] w (dK w (.tuple #[.string ByteArray.empty,.int .i64 (-1)])):=by
 open apv in exact aj7
theorem DK (hs:s.size<=60000) (a g cap:Nat) (hcap:s.size<=cap) (w:World) (h5:a+5<=s.size) (h6:s.size<=a+1006) (hc:BytesAt w g s) (hg:g < w.heap.size) (hH:Handle w) (hz:0<=Bj (tl s a)) (hq:¬lZ (kE (Ec (tl s a)))=(tl s a).extract 0 4):Calls prog 200 #[.slice (some ⟨g,0,none⟩) s.size cap,.int .i64 a] w (dK w (.tuple #[.string ByteArray.empty,.int .i64 (-1)])):=by
 open apu in exact aj7
theorem BQ (hs:s.size<=60000) (a g cap:Nat) (hcap:s.size<=cap) (w:World) (h5:a+5<=s.size) (h6:s.size<=a+1006) (hc:BytesAt w g s) (hg:g < w.heap.size) (hH:Handle w) (hz:0<=Bj (tl s a)) (hq:lZ (kE (Ec (tl s a)))=(tl s a).extract 0 4):Calls prog 200 #[.slice (some ⟨g,0,none⟩) s.size cap,.int .i64 a] w (dK w (.tuple #[.string (Ec (tl s a)),.int .i64 (a+4+Bj (tl s a))])):=by
 open apt in exact aj7
theorem BP (hs:s.size<=60000) (a g cap:Nat) (hcap:s.size<=cap) (w:World) (h7:a+1006 < s.size) (hc:BytesAt w g s) (_hg:g < w.heap.size) (hH:Handle w) (hz:Bj (tl s a) < 0):Calls prog 200 #[.slice (some ⟨g,0,none⟩) s.size cap,.int .i64 a] w (dK w (.tuple #[.string ByteArray.empty,.int .i64 (-1)])):=by
 open apL in exact aj9
theorem BN (hs:s.size<=60000) (a g cap:Nat) (hcap:s.size<=cap) (w:World) (h7:a+1006 < s.size) (hc:BytesAt w g s) (hg:g < w.heap.size) (hH:Handle w) (hz:0<=Bj (tl s a)) (hq:¬lZ (kE (Ec (tl s a)))=(tl s a).extract 0 4):Calls prog 200 #[.slice (some ⟨g,0,none⟩) s.size cap,.int .i64 a] w (dK w (.tuple #[.string ByteArray.empty,.int .i64 (-1)])):=by
 open apK in exact aj9
theorem zX (hs:s.size<=60000) (a g cap:Nat) (hcap:s.size<=cap) (w:World) (h7:a+1006 < s.size) (hc:BytesAt w g s) (hg:g < w.heap.size) (hH:Handle w) (hz:0<=Bj (tl s a)) (hq:lZ (kE (Ec (tl s a)))=(tl s a).extract 0 4):Calls prog 200 #[.slice (some ⟨g,0,none⟩) s.size cap,.int .i64 a] w (dK w (.tuple #[.string (Ec (tl s a)),.int .i64 (a+4+Bj (tl s a))])):=by
 open apJ in exact aj9
theorem Si (h:s.size=4):Bj s < 0:=by
 have hsz:=tq s
 have e1:gV (iB s) 0=none:=by
  cases hG:gV (iB s) 0 with
  |none=>rfl
  |some p=>
   obtain⟨n,c⟩:=p;obtain⟨k,hk0,hk,hc,_⟩:=Gh hG;omega
 unfold Bj iR;rw [e1];simp[textOf,Sg]
theorem aff (hs:s.size<=60000) (a:Nat) (ha:a<=s.size) (g cap:Nat) (hcap:s.size<=cap) (w:World) (hc:BytesAt w g s) (hg:g < w.heap.size) (hH:Handle w):Calls prog 200 #[.slice (some ⟨g,0,none⟩) s.size cap,.int .i64 a] w (dK w (.tuple #[.string (Il s a),.int .i64 (IV s a)])):=by
 have ht:=wY s a;unfold Il IV;by_cases h4:4<=(tl s a).size
 case' neg=>
  have hn:¬WV s a:=λh=>h4 h.1
  rw [aEG hn,aEG hn];exact IX s a g cap w hs ha Aaa
 by_cases h5:(tl s a).size=4
 case' pos=>
  have hz:=Si (tl s a) h5;have hn:¬WV s a:=λh=>absurd h.2.1 Aaa
  rw [aEG hn,aEG hn];exact BM s hs a g cap hcap w Aaa hc hg hH hz
 by_cases hz:0<=Bj (tl s a)
 case' neg=>
  have hn:¬WV s a:=λh=>hz h.2.1
  rw [aEG hn,aEG hn]
  by_cases h6:s.size<=a+1006
  .exact DR s hs a g cap hcap w Aaa h6 hc hg hH Aaa
  .exact BP s hs a g cap hcap w Aaa hc hg hH Aaa
 by_cases hq:lZ (kE (Ec (tl s a)))=(tl s a).extract 0 4
 case' neg=>
  have hn:¬WV s a:=λh=>hq h.2.2
  rw [aEG hn,aEG hn]
  by_cases h6:s.size<=a+1006
  .exact DK s hs a g cap hcap w Aaa h6 hc hg hH hz hq
  .exact BN s hs a g cap hcap w Aaa hc hg hH hz hq
 have hy:WV s a:=⟨h4,hz,hq⟩;rw [aER hy,aER hy];by_cases h6:s.size<=a+1006
 .exact BQ s hs a g cap hcap w Aaa h6 hc hg hH hz hq
 .exact zX s hs a g cap hcap w Aaa hc hg hH hz hq
theorem afk (pre y:List UInt8) (n:Nat) (h:n<=4000000000):Mth.get (pre++(Mth.put n++y)) pre.length=some (n,(Mth.put n).length):=by
 have:=abZ 5 n 5 0 1 0 y Aaa Aaa Aaa (.inr rfl) Aaa;unfold Mth.get;rw [List.drop_left];simpa [Mth.put] using this
theorem adv {s:ByteArray} {pre y:List UInt8} (hs:s.data.toList=pre++(Mth.put t.size++(t.data.toList++y))) (h:t.size<=1000) (i:Int) (hi:i=pre.length):jU s i=t/\iR s i=(pre.length+(oh t).size:Nat):=by
 subst hi;have hg:gV s (pre.length:Int)=some (t.size,(Mth.put t.size).length):=by rw [wL,hs];exact afk pre _ t.size Aaa
 have hl:=congrArg List.length hs;rw [aZ] at hl;simp only[aEC,aZ] at hl;have hps:(oh t).size=(Mth.put t.size).length+t.size:=by unfold oh;rw [aER h];unfold ru;rw [size_of_list,aEC,aZ]
 have ht:textOf s (pre.length:Int).toNat (gV s (pre.length:Int))=some (t,pre.length+(Mth.put t.size).length+t.size):=by
  rw [hg];unfold textOf;simp only[aFy];rw [aEG Aaa];congr 2
  apply aFP
  apply Array.ext'
  rw [aFV,hs];have e:pre++(Mth.put t.size++(t.data.toList++y))=(pre++Mth.put t.size)++(t.data.toList++y):=Aac
  rw [e,show pre.length+(Mth.put t.size).length=(pre++Mth.put t.size).length by simp,List.drop_left];rw [show(pre++Mth.put t.size).length+t.size - (pre++Mth.put t.size).length=t.data.toList.length by rw [aZ];omega,aGh]
 unfold jU iR;rw [ht];simp only[ZX,Sg];exact⟨trivial,Aaa⟩
theorem Cu (h:t.size<=1000):(oh t).data.toList=Mth.put t.size++t.data.toList:=by
 unfold oh;rw [aER h];rfl
theorem WR (a:Nat) (h:a+4<=s.size):(Bj (tl s a) < 0/\iR s ((a:Int)+4) < 0)\/(0<=Bj (tl s a)/\iR s ((a:Int)+4)=a+4+Bj (tl s a)/\jU s ((a:Int)+4)=Ec (tl s a)):=by
 have hR:(iB (tl s a)).data.toList=(s.data.toList.drop (a+4)).take (min (s.size - a) 1006 - 4):=by
  rw [En s a h,aFV];congr 1
  omega
 have hRs:(iB (tl s a)).size=min (s.size - a) 1006 - 4:=by rw [tq,wY]
 unfold Bj Ec;generalize iB (tl s a)=R at *;have hl:=aZ s;have hpl:(a:Int)+4=((s.data.toList.take (a+4)).length:Int):=by rw [aEX,hl];omega
 by_cases hz:0<=iR R 0
 .right
  obtain⟨_,_,hle,hsz,hput⟩:=iD hz;have hq:=Cu hsz;have hzl:(oh (jU R 0)).size=(iR R 0).toNat:=by grind [aZ]
  rw [hR] at hput;simp only[Int.toNat_zero,List.drop_zero] at hput;rw [aGg,aFH Aaa] at hput;grind [iR,jU,adv,List.append_assoc,List.take_append_drop]
 .left
  refine⟨Aaa,?_⟩;rcases Int.lt_or_le (iR s ((a:Int)+4)) 0 with h0|h0
  .exact h0
  .exfalso
   obtain⟨_,g2,hle,hsz,hput⟩:=iD h0;have hq:=Cu hsz;have hp2:=adi (jU s ((a:Int)+4));have ea:((a:Int)+4).toNat=a+4:=Aaa
   rw [ea,List.drop_take] at hput;have hzl:(oh (jU s ((a:Int)+4))).size=(iR s ((a:Int)+4)).toNat - (a+4):=by grind [aZ]
   have hs:R.data.toList=[]++(Mth.put (jU s ((a:Int)+4)).size++((jU s ((a:Int)+4)).data.toList++R.data.toList.drop ((iR s ((a:Int)+4)).toNat - (a+4)))):=by
    rw [<-aFa (Mth.put _),<-hq,hput,aFN];conv=>lhs;rw [<-aFm ((iR s ((a:Int)+4)).toNat - (a+4)) R.data.toList]
    grind
   obtain⟨_,h2⟩:=adv hs hsz 0 rfl;rw [h2] at hz;omega
def Eb (s:ByteArray) (a:Nat):Bool:=decide (WV s a)&&kN (Il s a)
theorem adI (a:Nat) (h:a+4 < s.size):Eb s a=(decide (0<=iR s ((a:Int)+4))&&kN (jU s ((a:Int)+4))&&decide (s.extract a (a+4)=lZ (kE (jU s ((a:Int)+4))))):=by
 unfold Eb Il;have hc:=CQ s a 0 4 Aaa;have hs:=wY s a;rcases WR s a Aaa with⟨h1,h2⟩|⟨h1,h2,h3⟩
 .grind [WV,iR]
 .grind [WV,iR,kE,tl,Ec,lZ]
theorem tK {s:ByteArray} {a:Nat} (h:Eb s a=true):a+4 < s.size/\Il s a=jU s ((a:Int)+4)/\IV s a=iR s ((a:Int)+4)/\(a:Int)+4 < IV s a/\IV s a<=s.size/\kN (Il s a)=true/\(Il s a).size<=1000:=by
 unfold Eb at h;simp only[aED,aE3] at h;obtain⟨hf,hg⟩:=h;have hs:=wY s a;have h4:=hf.1;have hne:(tl s a).size≠4:=λhe=>by have:=Si _ he;have:=hf.2.1;omega
 have hT:Il s a=Ec (tl s a):=aER hf;have hE:IV s a=a+4+Bj (tl s a):=aER hf;rcases WR s a Aaa with⟨h1,_⟩|⟨h1,h2,h3⟩
 .have:=hf.2.1;omega
 .obtain⟨_,_,k1,k2,k3⟩:=iD (s:=s) (i:=(a:Int)+4) Aaa;have hgs:0 < (Il s a).size:=by unfold kN at hg;simp only[aED,aE3] at hg;exact hg.1.1.1
  grind [tl,Bj,Cu,aZ]
def sU (s:ByteArray):Nat->Nat->List gD×Nat
 |0,a=>([],a)
 |f+1,a=>if Eb s a=true then(opC (Il s a)::(sU s f (IV s a).toNat).1,(sU s f (IV s a).toNat).2) else([],a)
def fT (s:ByteArray):List gD×Nat:=if s.size<=60000 then sU s (s.size+1) 0 else([],0)
def zI (s:ByteArray) (a:Nat) (L:List gD):Prop:=L.length<=a/\a<=s.size/\∃f,s.size < a+f/\fT s=(L++(sU s f a).1,(sU s f a).2)
theorem Di (h:s.size<=60000):zI s 0 []:=⟨aEx _,aEN _,s.size+1,Aaa,by unfold fT;rw [aER h];simp⟩
theorem Gw {s:ByteArray} {a:Nat} {L:List gD} (h:zI s a L) (hs:Eb s a=true):zI s (IV s a).toNat (L++[opC (Il s a)]):=by
 obtain⟨h1,h2,f,h3,h4⟩:=h;obtain⟨p1,_,_,p2,p3,_⟩:=tK hs;refine⟨by rw [aEC];simp;omega,Aaa,?_⟩;cases f with
 |zero=>omega
 |succ f=>
  refine⟨f,Aaa,?_⟩;rw [h4];simp only[sU,aER hs];rw [aFa];rfl
theorem Cz {s:ByteArray} {a:Nat} {L:List gD} (h:zI s a L) (hs:Eb s a=false):fT s=(L,a):=by
 obtain⟨_,h2,f,h3,h4⟩:=h;cases f with
 |zero=>omega
 |succ f=>
  rw [h4];simp only[sU,hs,Bool.false_eq_true,if_false];rw [aFF]
theorem R7 {s:ByteArray} {a:Nat} (h:¬a+4 < s.size):Eb s a=false:=by
 cases hs:Eb s a with
 |false=>rfl
 |true=>exact absurd (tK hs).1 h
end Go.Proofs.YtfachhcijcjbpaaGreatDoor
