/- Parts. -/
import Derived.Test.YtacgbldlonoaaaaGreatDoorRwT
import Derived.Test.YtacgbldlonoaaaaGreatDoorRw12
import Derived.Test.YtacgbldlonoaaaaGreatDoorRw17
namespace Go.Proofs.YtacgbldlonoaaaaGreatDoor
open Go.Proofs.Tryz
set_option maxHeartbeats 8000000
set_option maxRecDepth 100000
open Go.RowKit
open Mth
variable (s:ByteArray) {m:Mg} {t:ByteArray} {o:fP} {pre y:List UInt8}
theorem Jf (m:Mg) (w:World) (hs:m.k.size<=maxLen) (h:bY m=false):Calls prog 214 #[qg m] w (fF w (.string ByteArray.empty)):=by
 have HO:=Hq (λw1=>kX m w1 hs);rw [h] at HO;clear h hs;obtain⟨K,F,T,I,L,k,N⟩:=m;go_in
 exact ag5
theorem Gs (m:Mg) (w:World) (hs:m.k.size<=maxLen) (h:bY m=true):Calls prog 214 #[qg m] w (fF w (.string (jA m))):=by
 have hK:=aes h;have HO:=Hq (λw1=>kX m w1 hs);rw [h] at HO;clear h hs;obtain⟨K,F,T,I,L,k,N⟩:=m;obtain⟨hK0,hK2⟩:=hK;dsimp only at hK0 hK2
 have hw8:IntKind.u8.wrap K=K:=by
  have h3:K=0\/K=1\/K=2:=Aaa
  rcases h3 with rfl|rfl|rfl<;>rfl
 show Calls prog 214 #[qg ⟨K,F,T,I,L,k,N⟩] w (fF w (.string (kb K++lZ F++lZ T++lZ I++lZ L++jy k++lZ N)))
 have N1:=Hq (λw1=>l7 F w1);have N2:=Hq (λw1=>l7 T w1);have N3:=Hq (λw1=>l7 I w1);have N4:=Hq (λw1=>l7 L w1);have N5:=Hq (λw1=>rO k w1);have N6:=Hq (λw1=>l7 N w1);have s1:=fu F;have s2:=fu T;have s3:=fu I;have s4:=fu L;have s5:=oh k;have s6:=fu N;have s0:=Md K;have HCV:=Hq (λw1 g=>WW w1 g K ⟨hK0,hK2⟩);generalize lZ F=bF at *;generalize lZ T=bT at *;generalize lZ I=bI at *;generalize lZ L=bL at *;generalize jy k=bk at *;generalize lZ N=bN at *;generalize kb K=bK at *;have a1:=λw1=>run_string_add_sum (P:=prog) w1 bK bF Aaa
 have a2:=λw1=>run_string_add_sum (P:=prog) w1 (bK++bF) bT (by rw [ByteArray.size_append];omega)
 have a3:=λw1=>run_string_add_sum (P:=prog) w1 (bK++bF++bT) bI Abq
 have a4:=λw1=>run_string_add_sum (P:=prog) w1 (bK++bF++bT++bI) bL Abq
 have a5:=λw1=>run_string_add_sum (P:=prog) w1 (bK++bF++bT++bI++bL) bk Abq
 have a6:=λw1=>run_string_add_sum (P:=prog) w1 (bK++bF++bT++bI++bL++bk) bN Abq
 have HA:=Hq (And.intro a1 (And.intro a2 (And.intro a3 (And.intro a4 (And.intro a5 a6)))));clear s0 s1 s2 s3 s4 s5 s6 a1 a2 a3 a4 a5 a6 hK0 hK2;go_in
 go_wp2_with fail;refine(HO _).mono ?_;rintro e w1 ⟨rfl,hb1⟩;have hA:=aJ (heap_alloc_new w _) hb1;have hB:=(au w _).trans (hb1.mono Aac);obtain⟨c0,c1,c2,c3,c4,c5,c6⟩:=uj hA;have hz:=bH hA;clear hb1;go_upto_region 3 with fail;refine wp_at (λV hV=>?_);have hblk:V.heap[w.heap.size]?=some (.cells (cK K F T I L k N) 32 (0,0)):=by rw [hV];exact hA
 have vS:=Hq (show aY w V by rw [hV];exact hB);have hgV:=bH hblk;obtain⟨p0,p1,p2,p3,p4,p5,p6⟩:=uj hblk;clear hV hblk hA hB c0 c1 c2 c3 c4 c5 c6 hz;open amR in exact OH
theorem Gq (m:Mg) (w:World) (hs:m.k.size<=maxLen):Calls prog 214 #[qg m] w (fF w (.string (fA m))):=by
 cases h:bY m
 .rw [tu h];exact Jf m w hs h
 .rw [qO h];exact Gs m w hs h
theorem Kt (o:fP) (w:World) (hs:o.k.size<=maxLen) (hm:o.m.k.size<=maxLen):Calls prog 212 #[jX o] w (fF w (.bool (bq o))):=by
 have HO:=Hq (λw1=>jP o w1 hs hm);generalize bq o=r at *;obtain⟨K,no,k,n,⟨mK,mF,mT,mI,mL,mk,mN⟩⟩:=o;go_in
 exact ag4
theorem M9 (o:fP) (w:World) (hs:o.k.size<=maxLen) (hm:o.m.k.size<=maxLen) (h:bq o=false):Calls prog 178 #[jX o] w (fF w (.string ByteArray.empty)):=by
 have HO:=Hq (λw1=>Kt o w1 hs hm);rw [h] at HO;clear h hs hm;obtain⟨K,no,k,n,⟨mK,mF,mT,mI,mL,mk,mN⟩⟩:=o;go_in
 exact ag5
theorem Jg (o:fP) (w:World) (hs:o.k.size<=maxLen) (hm:o.m.k.size<=maxLen) (h:bq o=true):Calls prog 178 #[jX o] w (fF w (.string (fq o))):=by
 have hK:=J5 h;have HO:=Hq (λw1=>Kt o w1 hs hm);have NM:=Hq (λw1=>Gq o.m w1 hm);rw [h] at HO;clear h hs hm;obtain⟨K,no,k,n,m⟩:=o;obtain⟨hK0,hK6⟩:=hK;dsimp only at hK0 hK6 NM;have hw8:=UA K hK0 hK6;show Calls prog 178 #[jX ⟨K,no,k,n,m⟩] w (fF w (.string (kb K++lZ no++jy k++lZ n++jy (fA m))))
 have N1:=Hq (λw1=>l7 no w1);have N2:=Hq (λw1=>rO k w1);have N3:=Hq (λw1=>l7 n w1);have N4:=Hq (λw1=>rO (fA m) w1);have s1:=fu no;have s2:=oh k;have s3:=fu n;have s4:=oh (fA m);have s0:=Md K;have HCV:=Hq (λw1 g=>SI w1 g K ⟨hK0,hK6⟩);generalize lZ no=b1 at *;generalize jy k=b2 at *;generalize lZ n=b3 at *;generalize jy (fA m)=b4 at *;generalize fA m=bM at *;generalize kb K=bK at *;obtain⟨mK,mF,mT,mI,mL,mk,mN⟩:=m;have a1:=λw1=>run_string_add_sum (P:=prog) w1 bK b1 Aaa
 have a2:=λw1=>run_string_add_sum (P:=prog) w1 (bK++b1) b2 Abq
 have a3:=λw1=>run_string_add_sum (P:=prog) w1 (bK++b1++b2) b3 Abq
 have a4:=λw1=>run_string_add_sum (P:=prog) w1 (bK++b1++b2++b3) b4 Abq
 have HA:=Hq (And.intro a1 (And.intro a2 (And.intro a3 a4)));clear s0 s1 s2 s3 s4 a1 a2 a3 a4 hK0 hK6;go_in
 go_wp2_with fail;refine(HO _).mono ?_;rintro e w1 ⟨rfl,hb1⟩;have hA:=aJ (heap_alloc_new w _) hb1;have hB:=(au w _).trans (hb1.mono Aac);obtain⟨c0,c1,c2,c3,c4,c5,c6,c7,c8,c9,c10⟩:=Vr hA;have hz:=bH hA;clear hb1;go_upto_region 3 with fail;refine wp_at (λV hV=>?_);have hblk:V.heap[w.heap.size]?=some (.cells (cu K no k n mK mF mT mI mL mk mN) 34 (0,0)):=by rw [hV];exact hA
 have vS:=Hq (show aY w V by rw [hV];exact hB);have hgV:=bH hblk;obtain⟨p0,p1,p2,p3,p4,p5,p6,p7,p8,p9,oD⟩:=Vr hblk;clear hV hblk hA hB c0 c1 c2 c3 c4 c5 c6 c7 c8 c9 c10 hz;open amS in exact OH
theorem Ku (o:fP) (w:World) (hs:o.k.size<=maxLen) (hm:o.m.k.size<=maxLen):Calls prog 178 #[jX o] w (fF w (.string (iw o))):=by
 cases h:bq o
 .rw [F7 h];exact M9 o w hs hm h
 .rw [qz h];exact Jg o w hs hm h
theorem Gg (w:World):Calls prog 182 #[.string ByteArray.empty] w (fF w (.tuple #[.agg (cK 0 0 0 0 0 ⟨#[]⟩ 0),.bool false])):=by
 go_in
 go_wp2_with fail;exact bodyPost_ret (v:= .tuple #[.agg (cK 0 0 0 0 0 ⟨#[]⟩ 0),.bool false]) (by simp[results,results182,go_sem]) rfl ⟨rfl,au w _⟩
theorem Ea (hs:s.size<=maxLen) (h0:0 < s.size) (w:World):Calls prog 182 #[.string s] w (fF w (DV s)):=by
 have HN:=Hq (λw1=>aew s hs w1);have HT:=Hq (λw1=>Nh s (gW s 4) hs w1);have HG:=Hq (λw1=>Nf s (iW s (gW s 4)) hs w1)
 have hcs:(cand s).k.size<=maxLen:=by
  show(jJ s (gW s 4)).size<=maxLen
  by_cases h:0<=iW s (gW s 4)
  .exact Nat.le_trans (iE h).2.2.2.1 Aah
  .unfold iW at h;unfold jJ;cases hG:textOf s (gW s 4).toNat (iD s (gW s 4)) with
   |none=>simp[YA]
   |some p=>rw [hG] at h;exact absurd (by simp[Ra]) h
 have HP:=Hq (λw1=>Gq (cand s) w1 hcs);have HO:=Hq (Fu h0);open apm in exact awR
theorem Um (hs:s.size<=maxLen) (w:World):Calls prog 182 #[.string s] w (fF w (DV s)):=by
 by_cases h0:s.size=0
 .obtain rfl:=eq_empty s h0;rw [Eo (show jF ByteArray.empty=false by unfold jF;simp)];exact Gg w
 .exact Ea s hs Aaa w
def Lj (s:ByteArray):Value:= .tuple #[jX (getOp s),.bool (jM s)]
theorem Vu {s:ByteArray} (h:jM s=false):Lj s= .tuple #[.agg (cu 0 0 ⟨#[]⟩ 0 0 0 0 0 0 ⟨#[]⟩ 0),.bool false]:=by
 unfold Lj getOp;rw [h,if_neg Aac];rfl
theorem IV (w:World):Calls prog 140 #[.string ByteArray.empty] w (fF w (.tuple #[.agg (cu 0 0 ⟨#[]⟩ 0 0 0 0 0 0 ⟨#[]⟩ 0),.bool false])):=by
 go_in
 go_wp2_with fail;exact bodyPost_ret (v:= .tuple #[.agg (cu 0 0 ⟨#[]⟩ 0 0 0 0 0 0 ⟨#[]⟩ 0),.bool false]) (by simp[results,results140,go_sem]) rfl ⟨rfl,au w _⟩
theorem Gi (hs:s.size<=maxLen) (h0:0 < s.size) (w:World):Calls prog 140 #[.string s] w (fF w (Lj s)):=by
 have yZ:=Hq (λw1=>Nf s 1 hs w1);have HT1:=Hq (λw1=>Nh s (iV s 1) hs w1);have NW:Hid (∀w1:World,Calls prog 181 #[.string s,.int .i64 (iW s (iV s 1))] w1 (fF w1 (.tuple #[.int .i64 (tF s (iW s (iV s 1))),.int .i64 (J8 s)]))):=λw1=>Nf s (iW s (iV s 1)) hs w1
 have HT2:Hid (∀w1:World,Calls prog 139 #[.string s,.int .i64 (J8 s)] w1 (fF w1 (.tuple #[.string (Ah s),.int .i64 (J4 s)]))):=λw1=>Nh s (J8 s) hs w1
 have hbz:(Ah s).size<=maxLen:=Nat.le_trans (tN s (J8 s)) Aah;have HG:=Hq (λw1=>Um (Ah s) hbz w1);unfold DV at HG;have HP:=Hq (λw1=>Ku (opC s) w1 (Nat.le_trans (tN s (iV s 1)) Aah) (Nat.le_trans (acy (Ah s)) Aah));have HO:=Hq (JO h0);have hC:opC s=⟨s[0].toNat,tF s 1,jJ s (iV s 1),tF s (iW s (iV s 1)),lM (Ah s)⟩:=by unfold opC;rw [Lr h0]
 have HM:=Hq (show jM s=true->Lj s= .tuple #[jX (opC s),.bool true] from λh=>by unfold Lj getOp;rw [h,if_pos rfl]);have HZ:=Hq (show jM s=false->Lj s= .tuple #[.agg (cu 0 0 ⟨#[]⟩ 0 0 0 0 0 0 ⟨#[]⟩ 0),.bool false] from Vu);rw [show pW s=(decide ((Ah s).size=0)||jF (Ah s)) from rfl] at HO;rw [hC] at HP HM HO;clear hbz hC;have hne:=jT s h0;have hi0:(0:Int) < (s.size:Int):=Aaa
 generalize Lj s=RES at *;generalize jM s=OK at *;generalize lM (Ah s)=m at *;generalize jF (Ah s)=mo at *;open asP in exact af0
theorem Yv (hs:s.size<=maxLen) (w:World):Calls prog 140 #[.string s] w (fF w (Lj s)):=by
 by_cases h0:s.size=0
 .obtain rfl:=eq_empty s h0;rw [Vu (show jM ByteArray.empty=false by unfold jM;simp)];exact IV w
 .exact Gi s hs Aaa w
def frameT (s:ByteArray):ByteArray:=iK (ig s)++jy s
theorem Qe (m:Mg):0 < (jA m).size:=by
 unfold jA;exact JG
def iT (s:ByteArray):ByteArray:=s.extract 4 (min s.size 1006)
def Dk (s:ByteArray):ByteArray:=jJ (iT s) 0
def AY (s:ByteArray):Int:=iW (iT s) 0
theorem tK:(iT s).size=min s.size 1006 - 4:=by
 unfold iT;rw [ByteArray.size_extract];omega
theorem aeH (n:Nat) (h:n<=1000):(Mth.put n).length<=2:=by
 unfold Mth.put;by_cases h1:n<=127
 .rw [jI _ _ h1];simp
 .rw [og _ _ h1,jI _ _ Aaa];simp
theorem acF:(jy s).size<=1002:=by
 unfold jy;split
 .rename_i h
  unfold nH;have:=aeH s.size h;exact Vm
 .decide
theorem Ga (i:Int):(jJ s i).size<=1000:=by
 exact axT
theorem Uf (i:Int):iW s i<=s.size:=by
 by_cases h:0<=iW s i
 .exact(iE h).2.2.1
 .omega
theorem Vt (pre y:List UInt8) (n:Nat) (h:n<=4000000000):Mth.get (pre++(Mth.put n++y)) pre.length=some (n,(Mth.put n).length):=by
 have:=abk 5 n 5 0 1 0 y Aaa Aaa Aaa (.inr rfl) Aaa;unfold Mth.get;rw [List.drop_left];simpa [Mth.put] using this
theorem yK {s:ByteArray} {n:Nat} (hs:s.data.toList=pre++(Mth.put n++y)) (h:n<=4000000000) (i:Int) (hi:i=pre.length):tF s i=n/\iV s i=(pre.length+(Mth.put n).length:Nat):=by
 subst hi;have hg:iD s (pre.length:Int)=some (n,(Mth.put n).length):=by rw [sK,hs];exact Vt pre y n h
 unfold tF iV;rw [hg];simp only[aeC,acv];exact⟨trivial,Aaa⟩
theorem Cv {s:ByteArray} (hs:s.data.toList=pre++(Mth.put t.size++(t.data.toList++y))) (h:t.size<=1000) (i:Int) (hi:i=pre.length):jJ s i=t/\iW s i=(pre.length+(jy t).size:Nat):=by
 subst hi;have hg:iD s (pre.length:Int)=some (t.size,(Mth.put t.size).length):=by rw [sK,hs];exact Vt pre _ t.size Aaa
 have hl:=congrArg List.length hs;rw [aH] at hl;simp only[List.length_append,aH] at hl;have hps:(jy t).size=(Mth.put t.size).length+t.size:=by unfold jy;rw [if_pos h];unfold nH;rw [size_of_list,List.length_append,aH]
 have ht:textOf s (pre.length:Int).toNat (iD s (pre.length:Int))=some (t,pre.length+(Mth.put t.size).length+t.size):=by
  rw [hg];unfold textOf;simp only[Int.toNat_natCast];rw [if_neg Aaa];congr 2
  apply ByteArray.ext
  apply Array.ext'
  rw [Lib.extract_data,hs];have e:pre++(Mth.put t.size++(t.data.toList++y))=(pre++Mth.put t.size)++(t.data.toList++y):=Aac
  rw [e,show pre.length+(Mth.put t.size).length=(pre++Mth.put t.size).length by simp,List.drop_left];rw [show(pre++Mth.put t.size).length+t.size - (pre++Mth.put t.size).length=t.data.toList.length by rw [aH];omega,List.take_left]
 unfold jJ iW;rw [ht];simp only[YA,Ra];exact⟨trivial,Aaa⟩
theorem TR (h:bY m=true):(0<=m.K/\m.K<=2)/\(0<=m.F/\m.F<=29)/\(0<=m.T/\m.T<=29)/\(0<=m.I/\m.I<=1000000000)/\(0<=m.L/\m.L<=1000000000)/\(0<=m.N/\m.N<=1000000000)/\m.k.size<=10:=by
 have hkey:∀s:ByteArray,keyOk s.data.toList=true->s.size<=10:=by
  intro s hs;exact aay
 unfold bY nP rZ at h;simp only[Bool.and_eq_true,decide_eq_true_iff] at h;obtain⟨⟨⟨hF,hT⟩,_⟩,h⟩:=h;split at h
 .exact ahQ
 .split at h
  .exact ahQ
  .split at h
   .simp only[Bool.and_eq_true,fV,decide_eq_true_iff] at h;omega
   .cases h
theorem qP {n:Int} (h0:0<=n) (h1:n<=1000000000):(lZ n).data.toList=Mth.put n.toNat:=by
 unfold lZ;rw [if_pos Aaa]
theorem jC (h:t.size<=1000):(jy t).data.toList=Mth.put t.size++t.data.toList:=by
 unfold jy;rw [if_pos h];rfl
theorem OP (h:bY m=true):cand (jA m)=m/\jF (jA m)=true:=by
 obtain⟨hK,hF,hT,hI,hL,hN,hk⟩:=TR h;obtain⟨K,F,T,I,L,k,N⟩:=m;dsimp only at *
 have hs:(jA ⟨K,F,T,I,L,k,N⟩).data.toList=[UInt8.ofNat K.toNat]++(Mth.put F.toNat++(Mth.put T.toNat++(Mth.put I.toNat++(Mth.put L.toNat++((Mth.put k.size++k.data.toList)++Mth.put N.toNat))))):=by
  unfold jA;simp only[ByteArray.data_append,Array.toList_append];rw [qP hF.1 Aaa,qP hT.1 Aaa,qP hI.1 Aaa,qP hL.1 Aaa,qP hN.1 Aaa,jC Aaa];simp[kb]
 generalize hB:jA ⟨K,F,T,I,L,k,N⟩=B at *;obtain⟨n1,e1⟩:=yK (pre:=[UInt8.ofNat K.toNat]) (n:=F.toNat) hs Aaa 1 rfl;obtain⟨n2,e2⟩:=yK (pre:=[UInt8.ofNat K.toNat]++Mth.put F.toNat) (n:=T.toNat) (s:=B) Adw Aaa (iV B 1) (by rw [e1,List.length_append]);obtain⟨n3,e3⟩:=yK (pre:=[UInt8.ofNat K.toNat]++Mth.put F.toNat++Mth.put T.toNat) (n:=I.toNat) (s:=B) Adw Aaa (iV B (iV B 1)) (by rw [e2];simp only[List.length_append]);obtain⟨n4,e4⟩:=yK (pre:=[UInt8.ofNat K.toNat]++Mth.put F.toNat++Mth.put T.toNat++Mth.put I.toNat) (n:=L.toNat) (s:=B) Adw Aaa (iV B (iV B (iV B 1))) (by rw [e3];simp only[List.length_append]);obtain⟨n5,e5⟩:=Cv (pre:=[UInt8.ofNat K.toNat]++Mth.put F.toNat++Mth.put T.toNat++Mth.put I.toNat++Mth.put L.toNat) (t:=k) (y:=Mth.put N.toNat) (s:=B) Adx Aaa (iV B (iV B (iV B (iV B 1)))) (by rw [e4];simp only[List.length_append]);have hpk:(jy k).size=(Mth.put k.size++k.data.toList).length:=by rw [<-jC Aaa,aH]
 obtain⟨n6,e6⟩:=yK (pre:=[UInt8.ofNat K.toNat]++Mth.put F.toNat++Mth.put T.toNat++Mth.put I.toNat++Mth.put L.toNat++(Mth.put k.size++k.data.toList)) (n:=N.toNat) (y:=[]) (s:=B) Aec Aaa (iW B (iV B (iV B (iV B (iV B 1))))) (by rw [e5,hpk];simp only[List.length_append])
 have hc:cand B=⟨K,F,T,I,L,k,N⟩:=by
  unfold cand;rw [n1,n2,n3,n4,n5,n6,hs];simp only[List.cons_append,List.nil_append,List.headD_cons,Mg.mk.injEq];have:=toNat_byte K.toNat Aaa;refine⟨?_,?_,?_,?_,?_,trivial,?_⟩<;>omega
 have hE:vB B=B.size:=by
  unfold vB;rw [e6,<-aH B,hs];simp only[List.length_append];omega
 refine⟨hc,?_⟩;have h0:0 < B.size:=by rw [<-hB];exact Qe _
 unfold jF;rw [decide_eq_true h0,decide_eq_true hE,hc,h];rfl
theorem abl (h:bY m=true):lM (jA m)=m:=by
 obtain⟨h1,h2⟩:=OP h;unfold lM;rw [if_pos h2,h1]
theorem Iw (h:bY m=true):(jA m).size<=1000:=by
 obtain⟨_,_,_,_,_,_,hk⟩:=TR h;unfold jA;have s1:=fu m.F;have s2:=fu m.T;have s3:=fu m.I;have s4:=fu m.L;have s6:=fu m.N
 have s5:(jy m.k).size<=16:=by
  unfold jy;rw [if_pos Aaa];unfold nH;have:=put_length m.k.size;exact Vm
 exact JG
theorem SY (h:t.size<=1000):(frameT t).data.toList=(iK (ig t)).data.toList++(Mth.put t.size++t.data.toList):=by
 unfold frameT;rw [ByteArray.data_append,Array.toList_append,jC h]
def iZ (o:fP):ByteArray:=frameT (fq o)
def wrB (s:ByteArray) (o:fP):Bool:=bq o&&decide ((s.size+(iZ o).size:Int)<=60000)
def wrT (s:ByteArray) (o:fP):ByteArray:=if wrB s o=true then s++iZ o else s
theorem ayC {s:ByteArray} (h:wrB s o=false):wrT s o=s:=by unfold wrT;rw [if_neg Abu]
theorem ac8 {s:ByteArray} (h:bq o=false):wrB s o=false:=by unfold wrB;rw [h,Bool.false_and]
theorem ayD {s:ByteArray} (h:bq o=true):wrB s o=decide ((s.size+(iZ o).size:Int)<=60000):=by unfold wrB;rw [h,Bool.true_and]
theorem JN:(frameT s).size<=1010:=by
 unfold frameT;have h1:=uW (ig s);have h2:=oh s;rw [ByteArray.size_append];omega
abbrev wrV (s:ByteArray) (o:fP):Value:= .tuple #[.string (wrT s o),.bool (wrB s o)]
theorem Yy (o:fP) (w:World) (hl:s.size<=1048576) (hs:o.k.size<=maxLen) (hm:o.m.k.size<=maxLen):Calls prog 137 #[.string s,jX o] w (fF w (wrV s o)):=by
 have HM:=Hq (λw1=>Ku o w1 hs hm)
 have hsz:(iw o).size<=maxLen:=by
  unfold iw;split
  .exact Nat.le_trans (Ub o) Aah
  .exact Nat.zero_le _
 have HC:=Hq (λw1=>AJ (iw o) w1 hsz);have e:(65536*(sums (iw o).data.toList).2+(sums (iw o).data.toList).1:Int)=(ig (iw o):Int):=by unfold ig;omega
 rw [e] at HC;have HW:=Hq (λw1=>VB (ig (iw o)) (Ey _) w1);have HT:=Hq (λw1=>rO (iw o) w1);have hp:=oh (iw o);have hw:=uW (ig (iw o));have HF:Hid (frameT (iw o)=iK (ig (iw o))++jy (iw o)):=rfl;have ha:=λw1=>run_string_add_sum (P:=prog) w1 (iK (ig (iw o))) (jy (iw o)) Aaa
 have hfl:=JN (iw o);clear e hsz hs hm;cases h:bq o
 .rw [show wrV s o= .tuple #[.string s,.bool false] by unfold wrV;rw [ayC (ac8 h),ac8 h]];rw [F7 h] at HM HC HW HT ha;clear h HF hfl hp hw;generalize iK (ig ByteArray.empty)=bW at *;generalize ig ByteArray.empty=n at *;generalize jy ByteArray.empty=bT at *;obtain⟨K,no,k,n,⟨mK,mF,mT,mI,mL,mk,mN⟩⟩:=o;open apk in exact awQ
 .have hX:iZ o=frameT (iw o):=by unfold iZ;rw [qz h]
  have hne:=jT (iw o) (by rw [qz h];exact wC o);rw [ah HF] at hX hfl;rw [show wrV s o= .tuple #[.string (wrT s o),.bool (wrB s o)] from rfl];unfold wrT;rw [ayD h,hX];clear h HF hX hp hw;generalize iK (ig (iw o))++jy (iw o)=r at *;generalize iK (ig (iw o))=bW at *;generalize ig (iw o)=n at *;generalize jy (iw o)=bT at *;generalize iw o=b at *;have HR1:=Hq (λh:(s.size+r.size:Int)<=60000=>show(if decide ((s.size+r.size:Int)<=60000)=true then s++r else s)=s++r/\decide ((s.size+r.size:Int)<=60000)=true from⟨if_pos (decide_eq_true h),decide_eq_true h⟩);have HR2:=Hq (λh:60000 < (s.size+r.size:Int)=>show(if decide ((s.size+r.size:Int)<=60000)=true then s++r else s)=s/\decide ((s.size+r.size:Int)<=60000)=false from⟨if_neg (by rw [decide_eq_false Aaa];simp),decide_eq_false Aaa⟩);have a2:=λw1=>run_string_add_sum (P:=prog) w1 s r Aaa
  obtain⟨K,no,k,n,⟨mK,mF,mT,mI,mL,mk,mN⟩⟩:=o;generalize (if decide ((s.size+r.size:Int)<=60000)=true then s++r else s)=RT at *;generalize decide ((s.size+r.size:Int)<=60000)=RB at *;open apj in exact awQ
theorem XF (c:Nat) (w:World) (hc:qA w c):Calls prog 180 #[.pointer (some ⟨c,0,none⟩),.int .i64 1] w.drew λe w'=>∃t:ByteArray,e= .returned (.string t)/\t.size=1/\qA w' c/\Keeps c w w':=
 (ab2 c 1 w.drew (show qA w.drew c from hc) Aaa).mono λ_ _ ⟨t,h1,h2,h3,h4⟩=>⟨t,h1,h2,h3,⟨h4.os,h4.tape,h4.output,h4.size,h4.block⟩⟩
theorem ab3 (c:Nat) (s:ByteArray) (w:World) (hs:s.size<=20000) (hc:qA w c):Calls prog 138 #[.pointer (some ⟨c,0,none⟩),.string s] w λe w'=>∃t:ByteArray,e= .returned (.string t)/\t.size<=s.size+1/\qA w' c/\Keeps c w w':=by
 have HC:=Hq hc;clear hc;go_in
 go_wp2_with fail;refine(gM c _ _ HC Aaa Aaa).mono ?_;rintro e w1 ⟨i,rfl,hi0,hi1,hc1,hk1⟩;obtain⟨k,rfl⟩:=Int.eq_ofNat_of_zero_le hi0;have hk:k<=s.size:=Aaa
 have xE:=Hq hc1;have Jq:=Hq hk1;clear hc1 hk1 HC hi0 hi1;go_wp2_with fail;refine(gM c 8 _ xE Aaa Aaa).mono ?_;rintro e w2 ⟨z,rfl,hz0,hz1,hc2,hk2⟩;have oI:=Hq hc2;have qY:=Hq (Jq.trans hk2);clear hc2 hk2 xE Jq;have hki:(k:Int)<=(s.size:Int):=Aaa
 have hzc:z=0\/z=1\/2<=z:=Aaa
 rcases hzc with rfl|rfl|h2z
 .clear hz0 hz1;go_wp2_with fail;go_ret;exact⟨_,rfl,Acf,oI,qY⟩
 .clear hz0 hz1;have hl1:(s.extract 0 k).size=k:=Acf
  have hl2:(s.extract k s.size).size=s.size - k:=Acf
  go_upto_region 6 with fail;go_region_with (go_at_call 180;refine(XF c w2 oI).mono ?_;rintro e w5 ⟨t,rfl,ht,CW,hk5⟩;have a1:=λw1=>run_string_add_sum (P:=prog) w1 (s.extract 0 k) t Aaa;have a2:=λw1=>run_string_add_sum (P:=prog) w1 (s.extract 0 k++t) (s.extract k s.size) (by rw [ByteArray.size_append];omega))
  go_simp;go_wp2_with fail;go_ret;exact⟨_,rfl,Abq,CW,qY.trans hk5⟩
 .have q0:(z == 0)=false:=Aaf
  have q1:(z == 1)=false:=Aaf
  clear hz0 hz1;go_wp2_with fail;go_ret;exact⟨_,rfl,Aaa,oI,qY⟩
theorem EO (w:World) (o:Obj):(w.alloc o).heap.size=w.heap.size+1:=Aac
theorem aeu (a:Option Addr) (len cap:Nat) (w:World) (o:Obj) (h:xW w a len):Calls prog 31 #[.slice a len cap] (w.alloc o) λe w'=>e= .returned (.pointer (some ⟨w.heap.size+1,0,none⟩))/\qA w' (w.heap.size+1)/\w'.heap[w.heap.size]?=some o/\aY w w':=by
 have h1:=h.below (au w o);refine(ajR a len cap _ h1.1 h1.2).mono ?_;rintro e w' ⟨rfl,hc,hb⟩;have hb':Below (w.alloc o).heap.size (w.alloc o) w':=hb;rw [EO] at hc ⊢;exact⟨rfl,hc,aJ (heap_alloc_new w o) hb',(au w o).trans (hb'.mono (by rw [EO];omega))⟩
theorem akn (o:fP):(wrT s o).size<=s.size+1010:=by
 unfold wrT;split
 .have:=JN (fq o);rw [ByteArray.size_append];unfold iZ;omega
 .omega
theorem ajS (c:Nat) (w:World) (hc:qA w c):Calls prog 67 #[.pointer (some ⟨c,0,none⟩)] w λe w'=>∃t:ByteArray,e= .returned (.string t)/\t.size<=8000/\qA w' c/\Keeps c w w':=by
 have HC:=Hq hc;clear hc;go_in
 go_wp2_with fail;refine(gM c 8 _ HC Aaa Aaa).mono ?_;rintro e w1 ⟨x,rfl,hx0,hx1,hc1,hk1⟩;obtain⟨nn,rfl⟩:=Int.eq_ofNat_of_zero_le hx0;have hnn:nn < 8:=Aaa
 have xE:=Hq hc1;have Jq:=Hq hk1;clear hc1 hk1 HC hx0 hx1;go_wp2_with fail;go_loopw [3,5] (λv i wr=>∃(k:Nat) (s:ByteArray),k<=nn/\i= .int .i64 k/\v= .string s/\s.size<=k*1010/\qA wr c/\Keeps c w wr) (λ_ i _=>nn - (intOf i).toNat)
 case atStart=>exact⟨0,⟨#[]⟩,Nat.zero_le _,rfl,rfl,Nat.zero_le _,xE,Jq⟩
 case round=>
  obtain⟨k,s,hk,rfl,rfl,hsz,hcu,hke⟩:=hrel;have HCU:=Hq hcu;have HKE:=Hq hke;clear hcu hke xE Jq;by_cases hlt:k < nn
  .go_wp2_with fail;refine(ab5 c _ HCU).mono ?_;rintro e w2 ⟨o,rfl,hks,hms,hc2,hk2⟩;have oI:=Hq hc2;have qY:=Hq (HKE.trans hk2);have HW:=Hq (Yy s o w2 Aaa (Nat.le_trans hks Aah) (Nat.le_trans hms Aah));have hle:=akn s o;unfold wrV at HW;generalize wrT s o=t at *;generalize wrB s o=tb at *;clear hc2 hk2 hks hms HCU HKE;obtain⟨oK,ono,ok,on,⟨mK,mF,mT,mI,mL,mk,mN⟩⟩:=o;go_wp2_with fail;refine HW.mono ?_;rintro e w3 ⟨rfl,hb3⟩;have Nt:=Hq (oI.keep_below hb3);have HK3:=Hq (qY.trans (Keeps.of_below hb3));clear hb3 oI qY HW;go_wp2_with fail;go_roundw
   case rel=>exact⟨k+1,t,Aaa,Aai,rfl,Aaa,Nt,HK3⟩
   case measure=>simp[intOf];omega
  .go_wp2_with fail;refine(ab3 c s _ Aaa HCU).mono ?_;rintro e w2 ⟨t,rfl,ht,hc2,hk2⟩;have oI:=Hq hc2;have qY:=Hq (HKE.trans hk2);clear hc2 hk2 HCU HKE;go_wp2_with fail;go_ret;exact⟨t,rfl,Aaa,oI,qY⟩
end Go.Proofs.YtacgbldlonoaaaaGreatDoor
