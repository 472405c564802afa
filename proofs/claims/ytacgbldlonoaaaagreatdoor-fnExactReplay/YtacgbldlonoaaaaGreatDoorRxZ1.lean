/-
  Parts of proofs that stand more than once, each said once.
-/
import Derived.Test.YtacgbldlonoaaaaGreatDoorRows
import Derived.WalkSpells
import Derived.ShutString
import Derived.Lib.ItoaLen
import Derived.Deep.SlicePairs
import Derived.ProofKit
import Derived.Deep.DeepCutAuto
import Derived.Stop.LaidTwo
import Derived.OpenVars
import Derived.OpenShut
import Derived.LaidMore
import Derived.Stop.Joined
import Derived.Stop.Asserts
import Derived.Laws.AppendOwnNone
import Derived.Lib.QuietBelow
import Derived.Shelf.Spec.SearchS
import Derived.Shelf.Spec.SlicesInsertGrow
import Derived.Lib.BufferWrite
import Derived.Laws.CopyOwn
import Derived.Laws.Cover1
import Derived.Deep.AppendLies
import Derived.Deep.CutBlock
import Derived.Maps.Ext
import Derived.Lib.SlMapFilter
import Derived.Shelf.SlIterI.Nil
import Derived.Deep.RegionHeldLaw
import Derived.Sort.OwnSortedInts
import Derived.Shelf.SortM.Plain
import Derived.Shelf.SortM.SortNone
import Derived.Laws.EntriesVeiled
namespace Go.Proofs.YtacgbldlonoaaaaGreatDoor
set_option maxRecDepth 100000
variable{P:Prop}
theorem Adr(h:P:=by rw [hW];simp[World.setCell]):P:=h
theorem Adt(h:P:=by rw [ah HML];exact hlt):P:=h
theorem Adu(h:P:=by rw [hml];exact hlt):P:=h
theorem Adv(h:P:=by rw [List.take_succ_eq_append_getElem hlt,ayo,<-hm];rfl):P:=h
theorem Zx0(h:P:=by
 dsimp only at q0 q1 q2 q3 hkk;have hkm:pk.size<=maxLen:=hkk;unfold maxLen at hkk;go_wp2_with fail;refine(Gw _).mono ?_;rintro e w5 ⟨rfl,hb5⟩;have lT:=Hq (fO.trans (hb5.mono fO.size));clear hb5 q0 q1 q2 q3;dsimp only;by_cases hc:(pk.size:Int)<=z
 .rw [if_pos hc];have hn2:decide (z - (pk.size:Int) < 0)=false:=decide_eq_false Aaa;go_wp2_with fail;go_roundw
  case rel=>
   refine⟨k+1,z - pk.size,Aaa,Aai,rfl,Aaa,Aaa,?_,lT⟩;intro p hp;rw [ah HT] at hp;rcases List.mem_append.1 hp with h|h
   .exact mV p h
   .rw [List.mem_singleton] at h;subst h;show pk.size<=1048576
    omega
  case measure=>simp[intOf];omega
 .rw [if_neg hc];go_wp2_with fail;go_ret;exact⟨-1,rfl,lT,.inl rfl⟩):P:=h
theorem Zx1(h:P:=by
 clear hm;have e1:(m:Int)+1+1=m+2:=Aaa
 have e3:(m:Int)+2+1=m+3:=Aaa
 go_wp2_with fail;go_region_with (go_at_call 158;refine(HMT _ _ Aaa).mono ?_;rintro e w1 ⟨rfl,hb1⟩;have hc0:=(Ar hb1).1 g (k*4) (by simpa using hgl);have hc1:=(Ar hb1).1 g (k*4+1) (by simpa using hgl);have hc2:=(Ar hb1).1 g (k*4+2) (by simpa using hgl);have hc3:=(Ar hb1).1 g (k*4+3) (by simpa using hgl);have tN:=Hq (fO.trans (((Below.refl _ _).drew.trans hb1).mono fO.size));clear hb1)
 all_goals
  go_wp2_with fail
  go_roundw
  case rel=>exact⟨k+1,m+4,Aaa,Aai,Aai,by have:=ah HM;omega,tN⟩
  case measure=>simp[intOf];omega):P:=h
theorem Zx2(h:P:=by
 open aBS in exact Yx3):P:=h
theorem Zx3(h:P:=by
 open aBR in exact Yx3):P:=h
theorem Zx4(h:P:=by
 open aBQ in exact Yx3):P:=h
theorem Zx5(h:P:=by
 open aCc in exact Yx8):P:=h
theorem Zx6(h:P:=by
 open aCb in exact Yx8):P:=h
theorem Zx7(h:P:=by
 have hlen:(l.take k).length=k:=Aag
 rw [List.set_append_right _ _ Aaa,hlen,Nat.sub_self];have e:l.length - k=(l.length - (k+1))+1:=Aaa
 rw [e,List.replicate_succ,List.take_succ_eq_append_getElem hk,List.append_assoc];rfl):P:=h
theorem Zx8(h:P:=by
 go_wp2_with fail;go_ret;exact⟨rfl,(Below.refl _ _).alloc (Nat.le_refl _) _⟩):P:=h
theorem Zx9(h:P:=by
 exact⟨0,z0 - l.length,Nat.zero_le _,rfl,Aai,Aaa,Aaa,λp hp=>by simp at hp,Below.refl _ _⟩):P:=h
theorem aBp(h:P:=by
 obtain⟨e,hg,hc⟩:=h i hi;exact⟨e,hg,⟨by simpa using(hc 0 Aaa).1,by simpa using(hc 1 Aaa).1,by simpa using(hc 2 Aaa).1,by simpa using(hc 3 Aaa).1⟩,by simpa using(hc 0 Aaa).2,(hc 1 Aaa).2,(hc 2 Aaa).2,(hc 3 Aaa).2⟩):P:=h
theorem az7(h:P:=by
 exact⟨0,s,Nat.zero_le _,rfl,rfl,rfl,by rw [azU];exact HA,aC.refl _ _⟩):P:=h
theorem aAG(h:P:=by
 go_wp2_with fail;go_ret;exact⟨rfl,((Below.refl _ _).alloc (Nat.le_refl _) _).alloc Aac _⟩):P:=h
theorem azw(h:P:=by
 exact⟨0,s,Nat.zero_le _,rfl,rfl,rfl,Below.refl _ _⟩):P:=h
theorem az8(h:P:=by
 go_wp2_with fail;go_ret;exact⟨-1,rfl,Below.refl _ _,.inl rfl⟩):P:=h
theorem aBq(h:P:=by
 rcases List.mem_append.1 h1 with h1|h1
 .have:=c5 x h1;omega
 .have:=c6 x h1;omega):P:=h
theorem aAH(h:P:=by
 exact(((Below.refl _ _).alloc (Nat.le_refl _) _).alloc Aac _).alloc Aag _):P:=h
theorem aBr(h:P:=by
 go_enter Tryz.func148,Tryz.ntmps148
 go_wp2_with (go_at_call 73;refine(HI _).mono ?_;rintro e w1 ⟨rfl,rfl⟩)
 go_ret;exact⟨rfl,aj w _⟩):P:=h
theorem azx(h:P:=by
 exact⟨0,Nat.zero_le _,rfl,Below.refl _ _⟩):P:=h
theorem az9(h:P:=by
 simp only[Int.toNat_natCast] at h;rw [e] at h;exact h):P:=h
theorem aBs(h:P:=by
 go_enter Tryz.func73,Tryz.ntmps73
 go_wp2_with fail;go_ret;exact⟨rfl,rfl⟩):P:=h
theorem aBt(h:P:=by
 rcases List.mem_append.1 h1 with h1|h1
 .have:=c4 x h1;omega
 .exact aBq):P:=h
theorem Yx0(h:P:=by
 obtain⟨k,m,hk,rfl,rfl,hm,hR,hkp⟩:=hrel;have HM:=Hq hm;have HR:=Hq hR;have HK:=Hq hkp;clear hR hkp;exact Kx0):P:=h
theorem Sx0.Kx0(h:P:=by
 by_cases hlt:k < l.length
 .have hml:=ax1 mkInt 1 s l k hk;have hk':k < (mks mkInt 1 s l k).length:=Adu
  have hm0:0 < m:=Aaa
  have hm1:(m:Int)<=92233720368547758:=Aaa
  obtain⟨e0,hg0,s0,f0⟩:=GR.W.one HR k hk';subst e0;have HML:=Hq hml;clear hm hml;go_wp2_with fail;go_roundw
  case rel=>
   have hpos:0 < l.length:=Aaa
   have h5:=GR.W.set aQ HR k (mkInt m) Adt;have hmk:mkInt m=mkInt (s+1*k):=by rw [ah HM]
   rw [hmk,aym mkInt 1 s l k hlt,<-hmk,Nat.mul_one] at h5;exact⟨k+1,m+1,Aaa,Aai,Aai,by have:=ah HM;omega,h5,HK.trans (ax4 (aC.set _) hpos)⟩
  case measure=>simp[intOf];omega
 .exact Zx5):P:=h
theorem Sx1.Kx0(h:P:=by
 by_cases hlt:k < l.length
 .have hml:=ax1 ax6 4 s l k hk;have hk':k < (mks ax6 4 s l k).length:=Adu
  have hm0:0 < m:=Aaa
  have hm1:(m:Int)<=92233720368547758:=Aaa
  obtain⟨e0,hg0,⟨s0,s1,s2,s3⟩,f0,f1,f2,f3⟩:=GR.W.fourReq HR k hk';subst e0;have HMT:=Hq (λz w1 (hz:z=((m+1:Nat):Int))=>ayb (m+1) z w1 hz Aaa Aaa);open aB5 in exact Yx6
 .exact Zx5):P:=h
theorem Sx2.Kx0(h:P:=by
 by_cases hlt:k < l.length
 .have hml:=ax1 ax2 4 s l k hk;have hk':k < (mks ax2 4 s l k).length:=Adu
  have hm0:0 < m:=Aaa
  have hm1:(m:Int)<=92233720368547758:=Aaa
  obtain⟨e0,hg0,⟨s0,s1,s2,s3⟩,f0,f1,f2,f3⟩:=GR.W.fourSent HR k hk';subst e0;have HMT:=Hq (λz w1 (hz:z=((m+2:Nat):Int))=>ayb (m+2) z w1 hz Aaa Aaa);open aB4 in exact Yx6
 .exact Zx5):P:=h
theorem Sx3.Kx0(h:P:=by
 by_cases hlt:k < l.length
 .have hml:=ax1 ax0 4 s l k hk;have hk':k < (mks ax0 4 s l k).length:=Adu
  have hm0:0 < m:=Aaa
  have hm1:(m:Int)<=92233720368547758:=Aaa
  obtain⟨e0,hg0,⟨s0,s1,s2,s3⟩,f0,f1,f2,f3⟩:=GR.W.fourPurse HR k hk';subst e0;have HMT:=Hq (λz w1 (hz:z=((m+0:Nat):Int))=>ayb (m+0) z w1 hz Aaa Aaa);open aB3 in exact Yx6
 .exact Zx5):P:=h
theorem Sx4.Kx0(h:P:=by
 by_cases hlt:k < l.length
 .open aB7 in exact Yx7
 .open aCa in exact Yx8):P:=h
theorem Yx1(h:P:=by
 have hkk:=hks l[k] (List.getElem_mem hlt);have HT:=Hq (List.take_succ_eq_append_getElem hlt);generalize l[k]=pu at *;exact Kx1):P:=h
theorem Sx5.Kx1(h:P:=by
 have Gw:=Hq (λw1=>aAr pu z w1 hz0 hz1 hkk);obtain⟨pk,pm,pf,ps⟩:=pu;exact Zx0):P:=h
theorem Sx6.Kx1(h:P:=by
 have Gw:=Hq (λw1=>aAW pu z w1 hz0 hz1 hkk);obtain⟨pi,pt,pk,pn⟩:=pu;exact Zx0):P:=h
theorem Sx7.Kx1(h:P:=by
 have Gw:=Hq (λw1=>aBD pu z w1 hz0 hz1 hkk);obtain⟨pno,pk,pn,ps⟩:=pu;exact Zx0):P:=h
theorem Sx8.Kx1(h:P:=by
 have Gw:=Hq (λw1=>aAV pu b c z w1 hz0 hz1 hkk);obtain⟨fr,lo,ids⟩:=pu;dsimp only at q0 q1 q2 hkk;unfold maxLen at hkk;go_wp2_with fail;refine(Gw _).mono ?_;rintro e w5 ⟨rfl,hb5⟩;have lT:=Hq (fO.trans (hb5.mono fO.size));clear hb5 q0 q1 q2;dsimp only;by_cases hc:(ids.length:Int)<=z
 .rw [if_pos hc];have hn2:decide (z - (ids.length:Int) < 0)=false:=decide_eq_false Aaa;go_wp2_with fail;go_roundw
  case rel=>
   refine⟨k+1,z - ids.length,Aaa,Aai,rfl,Aaa,Aaa,?_,lT⟩;intro p hp;rw [ah HT] at hp;rcases List.mem_append.1 hp with h|h
   .exact mV p h
   .rw [List.mem_singleton] at h;subst h;show ids.length<=1048576
    omega
  case measure=>simp[intOf];omega
 .rw [if_neg hc];go_wp2_with fail;go_ret;exact⟨-1,rfl,lT,.inl rfl⟩):P:=h
theorem Yx2(h:P:=by
 have f0:=GR.Blk.free jW (k*4);have f1:=GR.Blk.free jW (k*4+1);have f2:=GR.Blk.free jW (k*4+2);have f3:=GR.Blk.free jW (k*4+3);go_wp2_with fail;exact Kx2):P:=h
theorem Sx9.Kx2(h:P:=by
 go_roundw
 case rel=>
  have h:=GR.Blk.set jW aZ k Aaa ⟨pk,pm,pf,ps⟩;rw [ah TS] at h;exact⟨k+1,Aaa,Aai,h,GR.setW_below (o:=k*4) (Nat.le_refl w.heap.size) (fE ⟨pk,pm,pf,ps⟩) lT⟩
 case measure=>simp[intOf];omega):P:=h
theorem aBN.Kx2(h:P:=by
 go_roundw
 case rel=>
  have h:=GR.Blk.set jW cZ k Aaa ⟨pi,pt,pk,pn⟩;rw [ah TS] at h;exact⟨k+1,Aaa,Aai,h,GR.setW_below (o:=k*4) (Nat.le_refl w.heap.size) (aR ⟨pi,pt,pk,pn⟩) lT⟩
 case measure=>simp[intOf];omega):P:=h
theorem aBO.Kx2(h:P:=by
 go_roundw
 case rel=>
  have h:=GR.Blk.set jW bg k Aaa ⟨pno,pk,pn,ps⟩;rw [ah TS] at h;exact⟨k+1,Aaa,Aai,h,GR.setW_below (o:=k*4) (Nat.le_refl w.heap.size) (aM ⟨pno,pk,pn,ps⟩) lT⟩
 case measure=>simp[intOf];omega):P:=h
theorem Yx3(h:P:=by
 open aB9 in exact Yx8):P:=h
theorem aBP.Kx3(h:P:=by
 exact⟨rfl,⟨T,I,HB,hTl,HI,HIM⟩,fO⟩):P:=h
theorem aBQ.Kx3(h:P:=by
 exact⟨rfl,fO⟩):P:=h
theorem aBR.Kx3(h:P:=by
 have h:=ah mV;rw [List.take_length] at h;exact⟨z,rfl,fO,.inr ⟨hz0,hz1,Aaa,h⟩⟩):P:=h
theorem aBS.Kx3(h:P:=by
 have h:=ah HB;rw [List.take_length,Nat.sub_self,List.replicate_zero,List.append_nil] at h;exact⟨rfl,h,fO⟩):P:=h
theorem Yx4(h:P:=by
 obtain⟨k,m,hk,rfl,rfl,hm,hbel⟩:=hrel;have HM:=Hq hm;have fO:=Hq hbel;clear hbel;exact Kx4):P:=h
theorem aBT.Kx4(h:P:=by
 by_cases hlt:k < l.length
 .have hm0:0 < m:=Aaa
  have hm1:(m:Int)<=92233720368547758:=Aaa
  obtain⟨e0,hgl,s0,_⟩:=GR.W.one (GR.W.below HA fO) k (by rw [ax1 mkInt 1 s l l.length (Nat.le_refl _)];exact hlt);rw [ayu mkInt 1 s l l.length k hlt (Nat.le_refl _),<-hm] at s0;dsimp only[mkInt] at s0;subst e0;clear hm;go_wp2_with fail;first|go_quiet (fail)|skip
  go_wp2_with fail;go_roundw
  case rel=>exact⟨k+1,m+1,Aaa,Aai,Aai,by have:=ah HM;omega,fO.trans ⟨rfl,rfl,rfl,Nat.le_refl _,λ_ _=>rfl⟩⟩
  case measure=>simp[intOf];omega
 .exact Zx6):P:=h
theorem aBU.Kx4(h:P:=by
 by_cases hlt:k < l.length
 .have hm0:0 < m:=Aaa
  have hm1:(m:Int)<=92233720368547758:=Aaa
  obtain⟨e0,hgl,⟨s0,s1,s2,s3⟩,_⟩:=GR.W.fourReq (GR.W.below HA fO) k (by rw [ax1 ax6 4 s l l.length (Nat.le_refl _)];exact hlt);rw [ayu ax6 4 s l l.length k hlt (Nat.le_refl _),<-hm] at s0 s1 s2 s3;dsimp only[ax6] at s0 s1 s2 s3;subst e0;have HMT:=Hq (λz w1 (hz:z=((m+1:Nat):Int))=>ayb (m+1) z w1 hz Aaa Aaa);exact Zx1
 .exact Zx6):P:=h
theorem aBV.Kx4(h:P:=by
 by_cases hlt:k < l.length
 .have hm0:0 < m:=Aaa
  have hm1:(m:Int)<=92233720368547758:=Aaa
  obtain⟨e0,hgl,⟨s0,s1,s2,s3⟩,_⟩:=GR.W.fourSent (GR.W.below HA fO) k (by rw [ax1 ax2 4 s l l.length (Nat.le_refl _)];exact hlt);rw [ayu ax2 4 s l l.length k hlt (Nat.le_refl _),<-hm] at s0 s1 s2 s3;dsimp only[ax2] at s0 s1 s2 s3;subst e0;have HMT:=Hq (λz w1 (hz:z=((m+2:Nat):Int))=>ayb (m+2) z w1 hz Aaa Aaa);exact Zx1
 .exact Zx6):P:=h
theorem aBW.Kx4(h:P:=by
 by_cases hlt:k < l.length
 .have hm0:0 < m:=Aaa
  have hm1:(m:Int)<=92233720368547758:=Aaa
  obtain⟨e0,hgl,⟨s0,s1,s2,s3⟩,_⟩:=GR.W.fourPurse (GR.W.below HA fO) k (by rw [ax1 ax0 4 s l l.length (Nat.le_refl _)];exact hlt);rw [ayu ax0 4 s l l.length k hlt (Nat.le_refl _),<-hm] at s0 s1 s2 s3;dsimp only[ax0] at s0 s1 s2 s3;subst e0;have HMT:=Hq (λz w1 (hz:z=((m+0:Nat):Int))=>ayb (m+0) z w1 hz Aaa Aaa);exact Zx1
 .exact Zx6):P:=h
theorem aBX.Kx4(h:P:=by
 by_cases hlt:k < l.length
 .open aB6 in exact Yx7
 .open aB8 in exact Yx8):P:=h
theorem Yx5(h:P:=by
 obtain⟨id,par,kids,next,pu,out,seen,old,reqs⟩:=n;obtain⟨ak,ap,ao,as',ar,ck,cp,co,cs,cr⟩:=A;exact Kx5):P:=h
theorem aBY.Kx5(h:P:=by
 obtain⟨bk,bp,bo,bs',br,dk,dp,dO,ds,dr⟩:=A';dsimp only at HK HP HO HS HR HA0 HB0 KN ⊢;go_enter Tryz.func28,Tryz.ntmps28
 obtain⟨c0,c1,c2,c3,c4,c5,c6,c7,c8⟩:=nine HA0;obtain⟨d0,d1,d2,d3,d4,d5,d6,d7,d8⟩:=nine HB0;go_wp2_with fail;refine(HK _ KN).mono ?_;rintro e w1 ⟨rfl,hb1⟩;have HA1:=Hq (ay HA0 hb1);have HB1:=Hq (ay HB0 hb1);have VP:=Hq (KN.trans (hb1.mono KN.size));clear hb1 c0 c1 c2 c3 c4 c5 c6 c7 c8 d0 d1 d2 d3 d4 d5 d6 d7 d8;obtain⟨c0,c1,c2,c3,c4,c5,c6,c7,c8⟩:=nine HA1;obtain⟨d0,d1,d2,d3,d4,d5,d6,d7,d8⟩:=nine HB1;go_wp2_with fail;refine(HP _ VP).mono ?_;rintro e w2 ⟨rfl,hb1⟩;have HA2:=Hq (ay HA1 hb1);have HB2:=Hq (ay HB1 hb1);have HL2:=Hq (VP.trans (hb1.mono VP.size));clear hb1 c0 c1 c2 c3 c4 c5 c6 c7 c8 d0 d1 d2 d3 d4 d5 d6 d7 d8;obtain⟨c0,c1,c2,c3,c4,c5,c6,c7,c8⟩:=nine HA2;obtain⟨d0,d1,d2,d3,d4,d5,d6,d7,d8⟩:=nine HB2;go_wp2_with fail;refine(HO _ HL2).mono ?_;rintro e w3 ⟨rfl,hb1⟩;have HA3:=Hq (ay HA2 hb1);have HB3:=Hq (ay HB2 hb1);have QZ:=Hq (HL2.trans (hb1.mono HL2.size));clear hb1 c0 c1 c2 c3 c4 c5 c6 c7 c8 d0 d1 d2 d3 d4 d5 d6 d7 d8;obtain⟨c0,c1,c2,c3,c4,c5,c6,c7,c8⟩:=nine HA3;obtain⟨d0,d1,d2,d3,d4,d5,d6,d7,d8⟩:=nine HB3;go_wp2_with fail;refine(HS _ QZ).mono ?_;rintro e w4 ⟨rfl,hb1⟩;have HA4:=Hq (ay HA3 hb1);have pE:=Hq (ay HB3 hb1);have HL4:=Hq (QZ.trans (hb1.mono QZ.size));clear hb1 c0 c1 c2 c3 c4 c5 c6 c7 c8 d0 d1 d2 d3 d4 d5 d6 d7 d8;obtain⟨c0,c1,c2,c3,c4,c5,c6,c7,c8⟩:=nine HA4;obtain⟨d0,d1,d2,d3,d4,d5,d6,d7,d8⟩:=nine pE;go_wp2_with fail;refine(HR _ HL4).mono ?_;rintro e w5 ⟨rfl,hb1⟩;have HA5:=Hq (ay HA4 hb1);have jW:=Hq (ay pE hb1);have HL5:=Hq (HL4.trans (hb1.mono HL4.size));clear hb1 c0 c1 c2 c3 c4 c5 c6 c7 c8 d0 d1 d2 d3 d4 d5 d6 d7 d8;obtain⟨c0,c1,c2,c3,c4,c5,c6,c7,c8⟩:=nine HA5;obtain⟨d0,d1,d2,d3,d4,d5,d6,d7,d8⟩:=nine jW;go_wp2_with fail;go_ret;exact⟨rfl,HL5⟩):P:=h
theorem aBZ.Kx5(h:P:=by
 dsimp only at HK HP HO HS HR HQ kE hkl ⊢;go_enter Tryz.func26,Tryz.ntmps26
 go_wp2_with fail;refine(HK _ _ Aaa Aaa).mono ?_;rintro e w0 ⟨rfl,rfl⟩;have KN:=Hq (aj w (.cells (dH ⟨id,par,kids,next,pu,out,seen,old,reqs⟩ ⟨ak,ap,ao,as',ar,ck,cp,co,cs,cr⟩) 63));have HB0:=Hq kE;obtain⟨z0,hz0⟩:∃z:Int,(if (kids.length:Int)<=1048576 then 1048576 - (kids.length:Int) else -1)=z:=⟨_,rfl⟩;rw [hz0];by_cases hk:(kids.length:Int)<=1048576
 case' neg=>
  rw [if_neg hk] at hz0
  subst hz0
  go_wp2_with fail
  go_ret
  exact⟨-1,rfl,KN,.inl rfl⟩
 rw [if_pos hk] at hz0;have q0:0<=z0:=Aaa
 have q1:z0<=1048576:=Aaa
 have q2:decide (z0 < 0)=false:=decide_eq_false Aaa;clear hz0 kE;obtain⟨c0,c1,c2,c3,c4,c5,c6,c7,c8⟩:=nine HB0;go_wp2_with fail;refine(HP _ _ KN Aaa Aaa).mono ?_;rintro e w1 ⟨z1,rfl,hb1,hcase⟩;have HB1:=Hq (ay HB0 hb1);have VP:=Hq (KN.trans (hb1.mono KN.size));clear hb1 c0 c1 c2 c3 c4 c5 c6 c7 c8;obtain⟨c0,c1,c2,c3,c4,c5,c6,c7,c8⟩:=nine HB1;rcases hcase with rfl|⟨p0,p1,p2,p3⟩
 case' inl=>
  go_wp2_with fail
  go_ret
  exact⟨-1,rfl,VP,.inl rfl⟩
 have K1:=Hq (And.intro p2 p3);have q3:decide (z1 < 0)=false:=decide_eq_false Aaa;clear p2 p3;go_wp2_with fail;refine(HO _ _ VP Aaa Aaa).mono ?_;rintro e w2 ⟨z2,rfl,hb1,hcase⟩;have HB2:=Hq (ay HB1 hb1);have HL2:=Hq (VP.trans (hb1.mono VP.size));clear hb1 c0 c1 c2 c3 c4 c5 c6 c7 c8;obtain⟨c0,c1,c2,c3,c4,c5,c6,c7,c8⟩:=nine HB2;rcases hcase with rfl|⟨p0,p1,p2,p3⟩
 case' inl=>
  go_wp2_with fail
  go_ret
  exact⟨-1,rfl,HL2,.inl rfl⟩
 have K2:=Hq (And.intro p2 p3);have q4:decide (z2 < 0)=false:=decide_eq_false Aaa;clear p2 p3;go_wp2_with fail;refine(HS _ _ HL2 Aaa Aaa).mono ?_;rintro e w3 ⟨z3,rfl,hb1,hcase⟩;have HB3:=Hq (ay HB2 hb1);have QZ:=Hq (HL2.trans (hb1.mono HL2.size));clear hb1 c0 c1 c2 c3 c4 c5 c6 c7 c8;obtain⟨c0,c1,c2,c3,c4,c5,c6,c7,c8⟩:=nine HB3;rcases hcase with rfl|⟨p0,p1,p2,p3⟩
 case' inl=>
  go_wp2_with fail
  go_ret
  exact⟨-1,rfl,QZ,.inl rfl⟩
 have K3:=Hq (And.intro p2 p3);have q5:decide (z3 < 0)=false:=decide_eq_false Aaa;clear p2 p3;go_wp2_with fail;refine(HR _ _ QZ Aaa Aaa).mono ?_;rintro e w4 ⟨z4,rfl,hb1,hcase⟩;have pE:=Hq (ay HB3 hb1);have HL4:=Hq (QZ.trans (hb1.mono QZ.size));clear hb1 c0 c1 c2 c3 c4 c5 c6 c7 c8;obtain⟨c0,c1,c2,c3,c4,c5,c6,c7,c8⟩:=nine pE;rcases hcase with rfl|⟨p0,p1,p2,p3⟩
 case' inl=>
  go_wp2_with fail
  go_ret
  exact⟨-1,rfl,HL4,.inl rfl⟩
 have K4:=Hq (And.intro p2 p3);have q6:decide (z4 < 0)=false:=decide_eq_false Aaa;clear p2 p3;go_wp2_with fail;go_ret;exact⟨z4,rfl,HL4,.inr ⟨p0,p1,HQ Aaa K1 K2 K3 K4⟩⟩):P:=h
theorem aB0.Kx5(h:P:=by
 dsimp only at Q8 HTP HTO HTS HTR ⊢;go_enter Tryz.func27,Tryz.ntmps27
 go_upto_region 4 with fail;refine wp_at (λW0 hW0=>?_);obtain⟨hP,hR,hO,hB⟩:=I7 w (.cells (dH ⟨id,par,kids,next,pu,out,seen,old,reqs⟩ ⟨ak,ap,ao,as',ar,ck,cp,co,cs,cr⟩) 63) (.cells (fK 0 0 none 0 0 0 none 0 0 none 0 0 none 0 0 0 none 0 0) 30) (.cells (fK id par none 0 0 0 none 0 0 none 0 0 none 0 0 0 none 0 0) 30);rw [<-hW0] at hP hR hO hB;have T0:=Hq (TN.mk hP hR hO (rows:=[]) (λx hx=>by cases hx) hB);clear hP hR hO hB hW0;obtain⟨c0,c1,c2,c3,c4,c5,c6,c7,c8⟩:=nine T0.par;go_wp2_with fail;refine(Q8 _ T0.bel).mono ?_;rintro e w1 ⟨rfl,hblk,hb⟩;have hg:w.heap.size+1+1 < W0.heap.size:=aA (ah T0).out;have U0:=Hq ((T0.step hb).add [(W0.heap.size,_)] (λx hx=>by rw [List.mem_singleton] at hx;subst hx;exact⟨hg,hblk⟩));have o0:=aA hblk;clear hblk hb hg T0;clear c0 c1 c2 c3 c4 c5 c6 c7 c8;obtain⟨c0,c1,c2,c3,c4,c5,c6,c7,c8⟩:=nine U0.par;obtain⟨d0,d1,d2,d3,d4,d5,d6,d7,d8⟩:=nine (ah U0).out;have f0:=au (ah U0).out 0;have f1:=au (ah U0).out 1;have f2:=au (ah U0).out 2;have f3:=au (ah U0).out 3;have f4:=au (ah U0).out 4;have f5:=au (ah U0).out 5;have f6:=au (ah U0).out 6;have f7:=au (ah U0).out 7;have f8:=au (ah U0).out 8;go_upto_region 6 with fail;refine wp_at (λW1 hW=>?_);have T1:=(U0.put 2 (.slice (some ⟨W0.heap.size,0,none⟩) kids.length kids.length)).put 3 (.int .i64 next);rw [<-hW] at T1;replace T1:=Hq T1
 have hz1:W1.heap.size=w1.heap.size:=Adr
 rw [<-hz1] at o0;clear d0 d1 d2 d3 d4 d5 d6 d7 d8 f0 f1 f2 f3 f4 f5 f6 f7 f8;clear c0 c1 c2 c3 c4 c5 c6 c7 c8;clear hW hz1 U0;obtain⟨c0,c1,c2,c3,c4,c5,c6,c7,c8⟩:=nine T1.par;go_wp2_with fail;refine(HTP _ T1.bel).mono ?_;rintro e w2 ⟨rfl,hblk,hb⟩;have hg:w.heap.size+1+1 < W1.heap.size:=aA (ah T1).out;have U1:=Hq ((T1.step hb).add [(W1.heap.size,_)] (λx hx=>by rw [List.mem_singleton] at hx;subst hx;exact⟨hg,hblk⟩));have o1:=aA hblk;clear hblk hb hg T1;clear c0 c1 c2 c3 c4 c5 c6 c7 c8;obtain⟨c0,c1,c2,c3,c4,c5,c6,c7,c8⟩:=nine U1.par;obtain⟨d0,d1,d2,d3,d4,d5,d6,d7,d8⟩:=nine (ah U1).out;have f0:=au (ah U1).out 0;have f1:=au (ah U1).out 1;have f2:=au (ah U1).out 2;have f3:=au (ah U1).out 3;have f4:=au (ah U1).out 4;have f5:=au (ah U1).out 5;have f6:=au (ah U1).out 6;have f7:=au (ah U1).out 7;have f8:=au (ah U1).out 8;go_upto_region 7 with fail;refine wp_at (λW2 hW=>?_);have T2:=U1.put 4 (.slice (some ⟨W1.heap.size,0,none⟩) pu.length pu.length);rw [<-hW] at T2;replace T2:=Hq T2
 have hz2:W2.heap.size=w2.heap.size:=Adr
 rw [<-hz2] at o1;clear d0 d1 d2 d3 d4 d5 d6 d7 d8 f0 f1 f2 f3 f4 f5 f6 f7 f8;clear c0 c1 c2 c3 c4 c5 c6 c7 c8;clear hW hz2 U1;obtain⟨c0,c1,c2,c3,c4,c5,c6,c7,c8⟩:=nine T2.par;go_wp2_with fail;refine(HTO _ T2.bel).mono ?_;rintro e w3 ⟨rfl,hblk,hb⟩;have hg:w.heap.size+1+1 < W2.heap.size:=aA (ah T2).out;have U2:=Hq ((T2.step hb).add [(W2.heap.size,_)] (λx hx=>by rw [List.mem_singleton] at hx;subst hx;exact⟨hg,hblk⟩));have o2:=aA hblk;clear hblk hb hg T2;clear c0 c1 c2 c3 c4 c5 c6 c7 c8;obtain⟨c0,c1,c2,c3,c4,c5,c6,c7,c8⟩:=nine U2.par;obtain⟨d0,d1,d2,d3,d4,d5,d6,d7,d8⟩:=nine (ah U2).out;have f0:=au (ah U2).out 0;have f1:=au (ah U2).out 1;have f2:=au (ah U2).out 2;have f3:=au (ah U2).out 3;have f4:=au (ah U2).out 4;have f5:=au (ah U2).out 5;have f6:=au (ah U2).out 6;have f7:=au (ah U2).out 7;have f8:=au (ah U2).out 8;go_upto_region 8 with fail;refine wp_at (λW3 hW=>?_);have T3:=U2.put 5 (.slice (some ⟨W2.heap.size,0,none⟩) out.length out.length);rw [<-hW] at T3;replace T3:=Hq T3
 have hz3:W3.heap.size=w3.heap.size:=Adr
 rw [<-hz3] at o2;clear d0 d1 d2 d3 d4 d5 d6 d7 d8 f0 f1 f2 f3 f4 f5 f6 f7 f8;clear c0 c1 c2 c3 c4 c5 c6 c7 c8;clear hW hz3 U2;obtain⟨c0,c1,c2,c3,c4,c5,c6,c7,c8⟩:=nine T3.par;go_wp2_with fail;refine(HTS _ T3.bel).mono ?_;rintro e w4 ⟨rfl,⟨TT,II,hblk,hTl,hII,hIm⟩,hb⟩;have hg:w.heap.size+1+1 < W3.heap.size:=aA (ah T3).out;have EH:=Hq hTl;have HII:=Hq (λi hi=>(hII i hi).2.2.1);have HIM:=Hq hIm
 have U3:=Hq ((T3.step hb).add ((W3.heap.size,.cells (GR.flat eG TT).toArray 90 (0,0))::(List.range seen.length).map λi=>(II i,.cells (GR.flat aW (seen.getD i default).ids).toArray 3 (0,0))) (λx hx=>by
  rcases List.mem_cons.1 hx with rfl|hx
  .exact⟨hg,hblk⟩
  .obtain⟨i,hi,rfl⟩:=List.mem_map.1 hx;have h:=hII i (List.mem_range.1 hi)
   exact⟨Nat.lt_trans hg h.1,h.2.2.2⟩))
 have o3:W3.heap.size < w4.heap.size/\∀i,i < seen.length->W3.heap.size < II i/\II i < w4.heap.size:=⟨aA hblk,λi hi=>⟨(hII i hi).1,(hII i hi).2.1⟩⟩;clear hblk hb hg hTl hII hIm T3;clear c0 c1 c2 c3 c4 c5 c6 c7 c8;obtain⟨c0,c1,c2,c3,c4,c5,c6,c7,c8⟩:=nine U3.par;obtain⟨d0,d1,d2,d3,d4,d5,d6,d7,d8⟩:=nine (ah U3).out;have f0:=au (ah U3).out 0;have f1:=au (ah U3).out 1;have f2:=au (ah U3).out 2;have f3:=au (ah U3).out 3;have f4:=au (ah U3).out 4;have f5:=au (ah U3).out 5;have f6:=au (ah U3).out 6;have f7:=au (ah U3).out 7;have f8:=au (ah U3).out 8;go_upto_region 10 with fail;refine wp_at (λW4 hW=>?_);have T4:=(U3.put 6 (.slice (some ⟨W3.heap.size,0,none⟩) seen.length seen.length)).put 7 (.int .i64 old);rw [<-hW] at T4;replace T4:=Hq T4
 have ze:W4.heap.size=w4.heap.size:=Adr
 rw [<-ze] at o3;clear d0 d1 d2 d3 d4 d5 d6 d7 d8 f0 f1 f2 f3 f4 f5 f6 f7 f8;clear c0 c1 c2 c3 c4 c5 c6 c7 c8;clear hW ze U3;obtain⟨c0,c1,c2,c3,c4,c5,c6,c7,c8⟩:=nine T4.par;go_wp2_with fail;refine(HTR _ T4.bel).mono ?_;rintro e w5 ⟨rfl,hblk,hb⟩;have hg:w.heap.size+1+1 < W4.heap.size:=aA (ah T4).out;have U4:=Hq ((T4.step hb).add [(W4.heap.size,_)] (λx hx=>by rw [List.mem_singleton] at hx;subst hx;exact⟨hg,hblk⟩));have o4:=aA hblk;clear hblk hb hg T4;clear c0 c1 c2 c3 c4 c5 c6 c7 c8;obtain⟨c0,c1,c2,c3,c4,c5,c6,c7,c8⟩:=nine U4.par;obtain⟨d0,d1,d2,d3,d4,d5,d6,d7,d8⟩:=nine (ah U4).out;have f0:=au (ah U4).out 0;have f1:=au (ah U4).out 1;have f2:=au (ah U4).out 2;have f3:=au (ah U4).out 3;have f4:=au (ah U4).out 4;have f5:=au (ah U4).out 5;have f6:=au (ah U4).out 6;have f7:=au (ah U4).out 7;have f8:=au (ah U4).out 8;go_upto_region 11 with fail;refine wp_at (λW5 hW=>?_);have T5:=U4.put 8 (.slice (some ⟨W4.heap.size,0,none⟩) reqs.length reqs.length);rw [<-hW] at T5;replace T5:=Hq T5
 have hz5:W5.heap.size=w5.heap.size:=Adr
 rw [<-hz5] at o4;clear d0 d1 d2 d3 d4 d5 d6 d7 d8 f0 f1 f2 f3 f4 f5 f6 f7 f8;clear c0 c1 c2 c3 c4 c5 c6 c7 c8;clear hW hz5 U4;obtain⟨d0,d1,d2,d3,d4,d5,d6,d7,d8⟩:=nine (show W5.heap[w.heap.size+1+1]?=some (.cells (dH ⟨id,par,kids,next,pu,out,seen,old,reqs⟩ ⟨some ⟨W0.heap.size,0,none⟩,some ⟨W1.heap.size,0,none⟩,some ⟨W2.heap.size,0,none⟩,some ⟨W3.heap.size,0,none⟩,some ⟨W4.heap.size,0,none⟩,kids.length,pu.length,out.length,seen.length,reqs.length⟩) 30 (0,0)) from(ah T5).out);obtain⟨r0,r1,r2,r3,r4,r5,r6,r7,r8⟩:=nine T5.res;have f0:=au T5.res 0;have f1:=au T5.res 1;have f2:=au T5.res 2;have f3:=au T5.res 3;have f4:=au T5.res 4;have f5:=au T5.res 5;have f6:=au T5.res 6;have f7:=au T5.res 7;have f8:=au T5.res 8;have hlt:=aA T5.res;go_wp2_with fail;refine aN (λW' hW'=>?_);have hR:=azV (b0:= .int .i64 id) (b1:= .int .i64 par) (b2:= .slice (some ⟨W0.heap.size,0,none⟩) kids.length kids.length) (b3:= .int .i64 next) (b4:= .slice (some ⟨W1.heap.size,0,none⟩) pu.length pu.length) (b5:= .slice (some ⟨W2.heap.size,0,none⟩) out.length out.length) (b6:= .slice (some ⟨W3.heap.size,0,none⟩) seen.length seen.length) (b7:= .int .i64 old) (b8:= .slice (some ⟨W4.heap.size,0,none⟩) reqs.length reqs.length) T5.res;have hK:=ayN (w:=W5) (g:=w.heap.size+1) (b0:= .int .i64 id) (b1:= .int .i64 par) (b2:= .slice (some ⟨W0.heap.size,0,none⟩) kids.length kids.length) (b3:= .int .i64 next) (b4:= .slice (some ⟨W1.heap.size,0,none⟩) pu.length pu.length) (b5:= .slice (some ⟨W2.heap.size,0,none⟩) out.length out.length) (b6:= .slice (some ⟨W3.heap.size,0,none⟩) seen.length seen.length) (b7:= .int .i64 old) (b8:= .slice (some ⟨W4.heap.size,0,none⟩) reqs.length reqs.length);rw [<-hW'] at hR hK;clear d0 d1 d2 d3 d4 d5 d6 d7 d8 r0 r1 r2 r3 r4 r5 r6 r7 r8 f0 f1 f2 f3 f4 f5 f6 f7 f8 hW';obtain⟨x0,x1,x2,x3,x4,x5,x6,x7,x8⟩:=nine hR;have hrow:=T5.rows;have eY:=T5.bel.trans (hK.below (B:=w.heap.size) (λx hx=>Aaj) T5.bel.size);have q0:=hrow _ (List.mem_append_left _ (List.mem_append_left _ (List.mem_append_left _ (List.mem_append_left _ (List.mem_append_right _ (List.mem_singleton.2 rfl))))));have q1:=hrow _ (List.mem_append_left _ (List.mem_append_left _ (List.mem_append_left _ (List.mem_append_right _ (List.mem_singleton.2 rfl)))));have q2:=hrow _ (List.mem_append_left _ (List.mem_append_left _ (List.mem_append_right _ (List.mem_singleton.2 rfl))));have q3:=hrow _ (List.mem_append_left _ (List.mem_append_right _ (List.mem_cons_self ..)));have q4:=hrow _ (List.mem_append_right _ (List.mem_singleton.2 rfl));have q5:=λi (hi:i < seen.length)=>hrow (II i,_) (List.mem_append_left _ (List.mem_append_right _ (List.mem_cons_of_mem _ (List.mem_map.2 ⟨i,List.mem_range.2 hi,rfl⟩))))
 dsimp only at q0 q1 q2 q3 q4 q5;obtain⟨o3,o3i⟩:=o3;refine bodyPost_ret (v:=fI ⟨id,par,kids,next,pu,out,seen,old,reqs⟩ ⟨some ⟨W0.heap.size,0,none⟩,some ⟨W1.heap.size,0,none⟩,some ⟨W2.heap.size,0,none⟩,some ⟨W3.heap.size,0,none⟩,some ⟨W4.heap.size,0,none⟩,kids.length,pu.length,out.length,seen.length,reqs.length⟩) (by simp[results,Tryz.results27,go_sem,x0,x1,x2,x3,x4,x5,x6,x7,x8]) rfl ⟨_,rfl,⟨W0.heap.size,W1.heap.size,W2.heap.size,W3.heap.size,W4.heap.size,II⟩,?_,?_,eY⟩
 .refine sZ.keeps (w:=W5) (F:=[w.heap.size+1]) ⟨GR.W.of_blk aQ q0.2,GR.W.of_blk aZ q1.2,GR.W.of_blk cZ q2.2,fP.of q3.2 EH (λi hi=>⟨HII i hi,(q5 i hi).2⟩),GR.W.of_blk bg q4.2⟩ hK (λx hx=>?_)
  have hx':w.heap.size+1+1 < x:=by
   rcases aV.mem_all.1 hx with h|h|h|h|h|h
   .rw [(gH h).1];exact q0.1
   .rw [(gH h).1];exact q1.1
   .rw [(gH h).1];exact q2.1
   .rw [(gH h).1];exact q3.1
   .obtain⟨i,hi,rfl,_⟩:=uG h;exact(q5 i hi).1
   .rw [(gH h).1];exact q4.1
  simp;omega
 .have hs5:=hK.size;have o4':=o4
  have hI:∀x∈qw II seen,W3.heap.size < x/\x < W4.heap.size:=λx hx=>by
   obtain⟨i,hi,rfl,_⟩:=uG hx
   exact o3i i hi
  refine⟨?_,λx hx=>?_⟩
  .unfold aV.all;dsimp only;rw [List.nodup_append,List.nodup_append,List.nodup_append,List.nodup_append,List.nodup_append];refine⟨Db _ _,⟨Db _ _,⟨Db _ _,⟨Db _ _,⟨aAe HIM,Db _ _,?_⟩,?_⟩,?_⟩,?_⟩,?_⟩
   all_goals
    intro a ha b hb
    (try simp only[List.mem_append] at hb)
   .have:=hI a ha;rw [(gH hb).1];omega
   .rw [(gH ha).1];rcases hb with hb|hb
    .have:=hI b hb;omega
    .rw [(gH hb).1];omega
   .rw [(gH ha).1];rcases hb with hb|hb|hb
    .rw [(gH hb).1];omega
    .have:=hI b hb;omega
    .rw [(gH hb).1];omega
   .rw [(gH ha).1];rcases hb with hb|hb|hb|hb
    .rw [(gH hb).1];omega
    .rw [(gH hb).1];omega
    .have:=hI b hb;omega
    .rw [(gH hb).1];omega
   .rw [(gH ha).1];rcases hb with hb|hb|hb|hb|hb
    .rw [(gH hb).1];omega
    .rw [(gH hb).1];omega
    .rw [(gH hb).1];omega
    .have:=hI b hb;omega
    .rw [(gH hb).1];omega
  .have hq:=q0.1;rcases aV.mem_all.1 hx with h|h|h|h|h|h
   .rw [(gH h).1];dsimp only;omega
   .rw [(gH h).1];dsimp only;omega
   .rw [(gH h).1];dsimp only;omega
   .rw [(gH h).1];dsimp only;omega
   .have:=hI x h;omega
   .rw [(gH h).1];dsimp only;omega):P:=h
theorem aB1.Kx5(h:P:=by
 dsimp only at HS HB0 KN HKK HPP HOO HSS HRR hzk hzp hzo hzs hzr ⊢;obtain⟨q1,q2,q3,q4,q5⟩:=ah HS;have HQ4:=Hq q4;clear q4 HS;obtain⟨c0,c1,c2,c3,c4,c5,c6,c7,c8⟩:=nine HB0;go_enter Tryz.func30,Tryz.ntmps30
 go_wp2_with fail;refine(HKK _ _ KN Aaa).mono ?_;rintro e w1 ⟨rfl,hb1⟩;have HB1:=Hq (ay HB0 hb1);have VP:=Hq (KN.trans (hb1.mono KN.size));clear hb1 c0 c1 c2 c3 c4 c5 c6 c7 c8;obtain⟨c0,c1,c2,c3,c4,c5,c6,c7,c8⟩:=nine HB1;go_wp2_with fail;refine(HPP _ _ VP Aaa).mono ?_;rintro e w2 ⟨rfl,hb1⟩;have HB2:=Hq (ay HB1 hb1);have HL2:=Hq (VP.trans (hb1.mono VP.size));clear hb1 c0 c1 c2 c3 c4 c5 c6 c7 c8;obtain⟨c0,c1,c2,c3,c4,c5,c6,c7,c8⟩:=nine HB2;go_wp2_with fail;refine(HOO _ _ HL2 Aaa).mono ?_;rintro e w3 ⟨rfl,hb1⟩;have HB3:=Hq (ay HB2 hb1);have QZ:=Hq (HL2.trans (hb1.mono HL2.size));clear hb1 c0 c1 c2 c3 c4 c5 c6 c7 c8;obtain⟨c0,c1,c2,c3,c4,c5,c6,c7,c8⟩:=nine HB3;go_wp2_with fail;refine(HSS _ _ QZ Aaa).mono ?_;rintro e w4 ⟨rfl,hb1⟩;have pE:=Hq (ay HB3 hb1);have HL4:=Hq (QZ.trans (hb1.mono QZ.size));clear hb1 c0 c1 c2 c3 c4 c5 c6 c7 c8;obtain⟨c0,c1,c2,c3,c4,c5,c6,c7,c8⟩:=nine pE;rw [<-ah HQ4];have hn4:decide ((s4:Int) < 0)=false:=decide_eq_false Aaa;go_wp2_with fail;refine(HRR _ _ HL4 Aaa).mono ?_;rintro e w5 ⟨rfl,hb1⟩;have jW:=Hq (ay pE hb1);have HL5:=Hq (HL4.trans (hb1.mono HL4.size));clear hb1 c0 c1 c2 c3 c4 c5 c6 c7 c8;obtain⟨c0,c1,c2,c3,c4,c5,c6,c7,c8⟩:=nine jW;go_wp2_with fail;go_ret;exact⟨JN Aaa,HL5⟩):P:=h
theorem aB2.Kx5(h:P:=by
 dsimp only at HS HMN HK0 HP0 HO0 aAB HR0 HB0 HL aA8 mV HD2 HD3 HD4 HD5 HD6 aBa ⊢;obtain⟨q1,q2,q3,q4,q5⟩:=ah HS;have HQ4:=Hq q4;clear q4 HS;have hzk:=HZ.k;have hzp:=HZ.p;have hzo:=HZ.o;have hzs:=HZ.s;have hzr:=HZ.r;dsimp only at hzk hzp hzo hzs hzr;obtain⟨c0,c1,c2,c3,c4,c5,c6,c7,c8⟩:=nine HB0;go_enter Tryz.func29,Tryz.ntmps29
 go_wp2_with fail;refine(ayB ak G.k ck 1 _ kids _ Aaa Aaa Aaa hzk HK0).mono ?_;rintro e w1 ⟨rfl,hw,hk⟩;have HK1:=Hq hw;have xD:=Hq (GR.W.keeps HP0 hk (λx hx=>λhx2=>(Ne.symm (HD2 _ hx2 _ (.inl hx))) rfl));have HO1:=Hq (GR.W.keeps HO0 hk (λx hx=>λhx2=>(Ne.symm (HD2 _ hx2 _ (.inr (.inl hx)))) rfl));have aBe:=Hq (fP.keeps aAB hk (λx hx=>λhx2=>(Ne.symm (HD2 _ hx2 _ (.inr (.inr (.inl hx))))) rfl) (λx hx=>λhx2=>(Ne.symm (HD2 _ hx2 _ (.inr (.inr (.inr (.inl hx)))))) rfl));have HR1:=Hq (GR.W.keeps HR0 hk (λx hx=>λhx2=>(Ne.symm (HD2 _ hx2 _ (.inr (.inr (.inr (.inr hx)))))) rfl));have HB1:=Hq (hk.obj HB0 (λhx=>by have:=HL.1 _ hx;omega));have aBG:=Hq (aA8.trans (hk.mono (λx hx=>mV _ (.inl hx))));clear hw hk c0 c1 c2 c3 c4 c5 c6 c7 c8 HK0 HP0 HO0 aAB HR0;obtain⟨c0,c1,c2,c3,c4,c5,c6,c7,c8⟩:=nine HB1;go_wp2_with fail;refine(ayM ap G.p cp s1 _ pu _ Aaa b1 Aaa hzp xD).mono ?_;rintro e w2 ⟨rfl,hw,hk⟩;have yZ:=Hq hw;have xA:=Hq (GR.W.keeps HK1 hk (λx hx=>λhx2=>(HD2 _ (aya hx) _ (.inl hx2)) rfl));have HO2:=Hq (GR.W.keeps HO1 hk (λx hx=>λhx2=>(Ne.symm (HD3 _ hx2 _ (.inl hx))) rfl));have aBf:=Hq (fP.keeps aBe hk (λx hx=>λhx2=>(Ne.symm (HD3 _ hx2 _ (.inr (.inl hx)))) rfl) (λx hx=>λhx2=>(Ne.symm (HD3 _ hx2 _ (.inr (.inr (.inl hx))))) rfl));have HR2:=Hq (GR.W.keeps HR1 hk (λx hx=>λhx2=>(Ne.symm (HD3 _ hx2 _ (.inr (.inr (.inr hx))))) rfl));have HB2:=Hq (hk.obj HB1 (λhx=>by have:=HL.2.1 _ hx;omega));have aBH:=Hq (aBG.trans (hk.mono (λx hx=>mV _ (.inr (.inl hx)))));clear hw hk c0 c1 c2 c3 c4 c5 c6 c7 c8 HK1 xD HO1 aBe HR1;obtain⟨c0,c1,c2,c3,c4,c5,c6,c7,c8⟩:=nine HB2;go_wp2_with fail;refine(azk ao G.o co s2 _ out _ Aaa b3 Aaa hzo HO2).mono ?_;rintro e w3 ⟨rfl,hw,hk⟩;have Gj:=Hq hw;have HK3:=Hq (GR.W.keeps xA hk (λx hx=>λhx2=>(HD2 _ (aya hx) _ (.inr (.inl hx2))) rfl));have Vm:=Hq (GR.W.keeps yZ hk (λx hx=>λhx2=>(HD3 _ (aya hx) _ (.inl hx2)) rfl));have aBg:=Hq (fP.keeps aBf hk (λx hx=>λhx2=>(Ne.symm (HD4 _ hx2 _ (.inl hx))) rfl) (λx hx=>λhx2=>(Ne.symm (HD4 _ hx2 _ (.inr (.inl hx)))) rfl));have HR3:=Hq (GR.W.keeps HR2 hk (λx hx=>λhx2=>(Ne.symm (HD4 _ hx2 _ (.inr (.inr hx)))) rfl));have HB3:=Hq (hk.obj HB2 (λhx=>by have:=HL.2.2.1 _ hx;omega));have aBI:=Hq (aBH.trans (hk.mono (λx hx=>mV _ (.inr (.inr (.inl hx))))));clear hw hk c0 c1 c2 c3 c4 c5 c6 c7 c8 xA yZ HO2 aBf HR2;obtain⟨c0,c1,c2,c3,c4,c5,c6,c7,c8⟩:=nine HB3;go_wp2_with fail;refine(azi as' G.s cs s3 _ G.i seen _ Aaa b5 b6 hzs HZ.sk aBa aBg).mono ?_;rintro e w4 ⟨rfl,hw,hk⟩;have aBh:=Hq hw;have HK4:=Hq (GR.W.keeps HK3 hk (λx hx=>λhx2=>by rcases List.mem_append.1 hx2 with hx3|hx3;exact(HD2 _ (aya hx) _ (.inr (.inr (.inl hx3)))) rfl;exact(HD2 _ (aya hx) _ (.inr (.inr (.inr (.inl hx3))))) rfl));have SI:=Hq (GR.W.keeps Vm hk (λx hx=>λhx2=>by rcases List.mem_append.1 hx2 with hx3|hx3;exact(HD3 _ (aya hx) _ (.inr (.inl hx3))) rfl;exact(HD3 _ (aya hx) _ (.inr (.inr (.inl hx3)))) rfl));have HO4:=Hq (GR.W.keeps Gj hk (λx hx=>λhx2=>by rcases List.mem_append.1 hx2 with hx3|hx3;exact(HD4 _ (aya hx) _ (.inl hx3)) rfl;exact(HD4 _ (aya hx) _ (.inr (.inl hx3))) rfl));have HR4:=Hq (GR.W.keeps HR3 hk (λx hx=>λhx2=>by rcases List.mem_append.1 hx2 with hx3|hx3;exact(Ne.symm (HD5 _ hx3 _ (.inr hx))) rfl;exact(Ne.symm (HD6 _ hx3 _ hx)) rfl));have pE:=Hq (hk.obj HB3 (λhx=>by have:=HL.2.2.2.1 _ hx;omega));have aBJ:=Hq (aBI.trans (hk.mono (λx hx=>by rcases List.mem_append.1 hx with hx|hx;exact mV _ (.inr (.inr (.inr (.inl hx))));exact mV _ (.inr (.inr (.inr (.inr (.inl hx))))))));clear hw hk c0 c1 c2 c3 c4 c5 c6 c7 c8 HK3 Vm Gj aBg HR3;obtain⟨c0,c1,c2,c3,c4,c5,c6,c7,c8⟩:=nine pE;rw [<-ah HQ4];go_wp2_with fail;refine(azS ar G.r cr s4 _ reqs _ Aaa b7 Aaa hzr HR4).mono ?_;rintro e w5 ⟨rfl,hw,hk⟩;have Vq:=Hq hw;have HK5:=Hq (GR.W.keeps HK4 hk (λx hx=>λhx2=>(HD2 _ (aya hx) _ (.inr (.inr (.inr (.inr hx2))))) rfl));have Kv:=Hq (GR.W.keeps SI hk (λx hx=>λhx2=>(HD3 _ (aya hx) _ (.inr (.inr (.inr hx2)))) rfl));have Ku:=Hq (GR.W.keeps HO4 hk (λx hx=>λhx2=>(HD4 _ (aya hx) _ (.inr (.inr hx2))) rfl));have aBL:=Hq (fP.keeps aBh hk (λx hx=>λhx2=>(HD5 _ (aBv hx) _ (.inr hx2)) rfl) (λx hx=>λhx2=>(HD6 _ (aAL hx) _ hx2) rfl));have jW:=Hq (hk.obj pE (λhx=>by have:=HL.2.2.2.2 _ hx;omega));have aBK:=Hq (aBJ.trans (hk.mono (λx hx=>mV _ (.inr (.inr (.inr (.inr (.inr hx))))))));clear hw hk c0 c1 c2 c3 c4 c5 c6 c7 c8 HK4 SI HO4 aBh HR4;obtain⟨c0,c1,c2,c3,c4,c5,c6,c7,c8⟩:=nine jW;go_wp2_with fail;go_ret;refine⟨JN Aaa,?_,aBK⟩;rw [ah HMN];exact⟨HK5,Kv,Ku,aBL,Vq⟩):P:=h
theorem Yx6(h:P:=by
 have HML:=Hq hml;clear hm hml;go_wp2_with (go_at_call 158;refine(HMT _ _ Aaa).mono ?_;rintro e w1 ⟨rfl,hb1⟩;have HB1:=Hq hb1;have hgz:=hb1.size;obtain⟨hcc,hff⟩:=Ar hb1;clear hb1)
 exact Kx6):P:=h
theorem aB3.Kx6(h:P:=by
 go_roundw
 case rel=>
  have hpos:0 < l.length:=Aaa
  have h0:=GR.W.toC aZ Aaa HR;open aCp in exact aAF
 case measure=>simp[intOf];omega):P:=h
theorem aB4.Kx6(h:P:=by
 go_roundw
 case rel=>
  have hpos:0 < l.length:=Aaa
  have h0:=GR.W.toC cZ Aaa HR;open aCo in exact aAF
 case measure=>simp[intOf];omega):P:=h
theorem aB5.Kx6(h:P:=by
 go_roundw
 case rel=>
  have hpos:0 < l.length:=Aaa
  have h0:=GR.W.toC bg Aaa HR;open aCn in exact aAF
 case measure=>simp[intOf];omega):P:=h
theorem Yx7(h:P:=by
 have hbd:=ayx s 1048600 (l.take k) (λx hx=>HL2 x (List.mem_of_mem_take hx));rw [<-hm,List.length_take,Nat.min_eq_left Aaa] at hbd;obtain⟨hb1,hb2⟩:=hbd;have hm0:0 < m:=Aaa
 have hm1:(m:Int)<=92233720368547758:=Aaa
 exact Kx7):P:=h
theorem aB6.Kx7(h:P:=by
 have hS:fP wr a g I (ax7 s l):=fP.keeps (F:=[]) HA (aC.of_below (fO.mono (Nat.le_refl _))) (λ_ _=>Aac) (λ_ _=>Aac);obtain⟨b,cc,e0,hg0,⟨s0,s1,s2⟩,_,hI⟩:=fP.three hS k (by rw [ax5];exact hlt);rw [ayA s l k hlt,<-hm] at s0 s1 s2 hI;have EX:=ah HL2 l[k] (List.getElem_mem hlt);have HE1:Hid (ax3 s (l.take (k+1))=m+2+(l[k]).ids.length):=Adv
 subst e0;clear hm hS;generalize l[k]=sk at *;obtain⟨fr,lo,ids⟩:=sk;unfold mSn at s0 s1 s2 hI;rw [ax1 mkInt 1 (m+2) ids ids.length (Nat.le_refl _)] at s2;dsimp only at s0 s1 s2 hI EX HE1;have HH:=Hq (λz (hz:z=((m+2:Nat):Int))=>ayy b (I k) cc ids.length (m+2) z ids wr hz rfl Aaa Aaa EX hI);clear hI;go_wp2_with (go_at_call 93;refine(HH _ Aaa).mono ?_;rintro e w1 ⟨rfl,hb5⟩;have tN:=Hq (fO.trans (hb5.mono fO.size));clear hb5)
 go_roundw
 case rel=>exact⟨k+1,m+2+ids.length,Aaa,Aai,Aai,HE1.symm,tN⟩
 case measure=>simp[intOf];omega):P:=h
theorem aB7.Kx7(h:P:=by
 have hk':k < (mSk s l k).length:=by rw [aye s l k hk];exact hlt
 obtain⟨b,cc,e0,hg0,⟨s0,s1,s2⟩,⟨f0,f1⟩,hI⟩:=fP.three HR k hk';have hpos:0 < l.length:=Aaa
 have aAO:g∈fp g l:=dQ hpos
 have HNE:Hid (∀x∈qw I (mSk s l k),x≠g):=by
  rw [ayf (aye s l k hk) (λi h1 h2=>ayS s l k hk i h1 h2)];exact λx hx e=>HND.2.2 g aAO x hx e.symm
 have HNI:Hid ((qw I (mSk s l k)).Nodup):=by
  rw [ayf (aye s l k hk) (λi h1 h2=>ayS s l k hk i h1 h2)];exact HND.2.1
 have EX:=ah HL2 l[k] (List.getElem_mem hlt);have hat:=azL s l k hlt;rw [hat] at s0 s1 s2 hI;have HPT:=Hq (fP.put HR k hk' (m:Int) ((m:Int)+1) HNE);rw [hat] at HPT;have HSE:=Hq (ayT s l k hlt);have HIK:=Hq (jw (I:=I) hlt);subst e0;have HI:=Hq hI;have HE1:Hid (ax3 s (l.take (k+1))=m+2+(l[k]).ids.length):=Adv
 have HMS:Hid (mSn (ax3 s (l.take k)) l[k]=⟨(m:Int),(m:Int)+1,mks mkInt 1 (m+2) (l[k]).ids (l[k]).ids.length⟩):=by rw [<-hm];rfl
 clear hm hI hat;have hmz:(mSk s l k)[k]=l[k]:=azL s l k hlt;have HMZ:=Hq hmz;clear hmz;generalize l[k]=sk at *;obtain⟨fr,lo,ids⟩:=sk;dsimp only at s0 s1 s2 HI EX HPT HIK HE1 HMS;go_wp2_with fail;have hKK:aC [g] wr ((wr.setCell ⟨g,k*3,none⟩ (.int .i64 (m:Int))).setCell ⟨g,k*3+1,none⟩ (.int .i64 ((m:Int)+1))):=(aC.set _).trans (aC.set _)
 have hI2:=HI.keeps hKK (λx hx=>by
  have h1:=ah HIK x hx
  have h2:=HND.2.2 g aAO x h1
  simp
  exact λe=>h2 e.symm)
 have hc2:((wr.setCell ⟨g,k*3,none⟩ (.int .i64 (m:Int))).setCell ⟨g,k*3+1,none⟩ (.int .i64 ((m:Int)+1))).cell? ⟨g,k*3+2,none⟩=some (.slice b ids.length cc):=(World.cell?_setCell_other _ _ _ _ Aac).trans ((World.cell?_setCell_other _ _ _ _ Aac).trans s2);have wY:=Hq hc2;have HKK:=Hq hKK;refine(ayB b (I k) cc (m+2) _ ids _ Aaa Aaa Aaa EX hI2).mono ?_;rintro e w2 ⟨rfl,hW2,hK2⟩
 have Bg:Hid (fP w2 (some ⟨g,0,none⟩) g I (mSk s l (k+1))/\aC (fp g l++qw I l) w w2):=by
  have hk2:k < ((mSk s l k).set k ⟨(m:Int),(m:Int)+1,ids⟩).length:=by simpa using hk'
  have hcg:qw I ((mSk s l k).set k ⟨(m:Int),(m:Int)+1,ids⟩)=qw I (mSk s l k):=ayf Aac (λi h1 h2=>by
   by_cases hik:i=k
   .subst hik;rw [List.getElem_set_self,ah HMZ]
   .rw [List.getElem_set_ne Aaa])
  have hx:=fP.ids HPT k hk2 b cc (mks mkInt 1 (m+2) ids ids.length) (by rw [List.getElem_set_self];exact wY) (by rw [List.getElem_set_self];exact ax1 mkInt 1 (m+2) ids ids.length (Nat.le_refl _)) hW2 (by rw [List.getElem_set_self];exact hK2) (by rw [hcg];exact HNE) (by rw [hcg];exact HNI);rw [List.getElem_set_self,List.set_set] at hx;dsimp only at hx;rw [<-ah HMS,ah HSE] at hx;refine⟨hx,(HK.trans (HKK.mono (λx hx=>?_))).trans (hK2.mono (λx hx=>List.mem_append_right _ (HIK x hx)))⟩;have:x=g:=Aaf
  rw [this];exact List.mem_append_left _ aAO
 clear hW2 hK2 hc2 hKK hI2;go_wp2_with fail;go_roundw
 case rel=>exact⟨k+1,m+2+ids.length,Aaa,Aai,Aai,HE1.symm,Bg.1,Bg.2⟩
 case measure=>simp[intOf];omega):P:=h
theorem Yx8(h:P:=by
 have hke:k=l.length:=Aaa
 subst hke;have hnlt:decide ((l.length:Int) < (l.length:Int))=false:=Aac
 exact Kx8):P:=h
theorem aB8.Kx8(h:P:=by
 have h:=ah HM;rw [List.take_length] at h;have HME:=Hq h;clear hm h;go_wp2_with fail;go_ret;exact⟨JN (by rw [ah HME]),fO⟩):P:=h
theorem aB9.Kx8(h:P:=by
 go_wp2_with fail;go_ret;exact Kx3):P:=h
theorem aCa.Kx8(h:P:=by
 have h:=ah HM;rw [List.take_length] at h;have HME:=Hq h;have hS:=ah HR;rw [aAo] at hS;have HS:=Hq hS;clear hm h hS;go_wp2_with fail;go_ret;exact⟨JN (by rw [ah HME]),HS,HK⟩):P:=h
theorem aCb.Kx8(h:P:=by
 clear hm;go_wp2_with fail;go_ret;exact⟨JN (by have:=ah HM;omega),fO⟩):P:=h
theorem aCc.Kx8(h:P:=by
 clear hm;go_wp2_with fail;go_ret;exact⟨JN (by have:=ah HM;omega),HR,HK⟩):P:=h
theorem Yx9(h:P:=by
 obtain⟨k,z,hk,rfl,rfl,hz0,hz1,hall,hbel⟩:=hrel;have mV:=Hq hall;have fO:=Hq hbel;clear hall hbel;exact Kx9):P:=h
theorem aCd.Kx9(h:P:=by
 by_cases hlt:k < l.length
 .obtain⟨g,off,rfl,hgw,q0,q1,q2,q3⟩:=aH.four (GR.At.below HA fO) k hlt;open Sx5 in exact Yx1
 .exact Zx3):P:=h
theorem aCe.Kx9(h:P:=by
 by_cases hlt:k < l.length
 .obtain⟨g,off,rfl,hgw,q0,q1,q2,q3⟩:=SentAt.four (GR.At.below HA fO) k hlt;open Sx6 in exact Yx1
 .exact Zx3):P:=h
theorem aCf.Kx9(h:P:=by
 by_cases hlt:k < l.length
 .obtain⟨g,off,rfl,hgw,q0,q1,q2,q3⟩:=iU.four (GR.At.below HA fO) k hlt;open Sx7 in exact Yx1
 .exact Zx3):P:=h
theorem aCg.Kx9(h:P:=by
 by_cases hlt:k < l.length
 .obtain⟨g,off,b,c,e0,hgw,q0,q1,q2,_⟩:=lu.below HA fO k hlt;subst e0;open Sx8 in exact Yx1
 .exact Zx3):P:=h
theorem az6(h:P:=by
 obtain⟨k,hk,rfl,hB,hbel⟩:=hrel;have HB:=Hq hB;have fO:=Hq hbel;clear hB hbel hmk;exact Kx10):P:=h
theorem aCh.Kx10(h:P:=by
 by_cases hlt:k < l.length
 .obtain⟨g,off,rfl,hgw,q0,q1,q2,q3⟩:=aH.four (GR.At.below HA fO) k hlt;have TS:=Hq (OG l ⟨ByteArray.empty,0,0,0⟩ k hlt);generalize l[k]=pu at *;obtain⟨pk,pm,pf,ps⟩:=pu;dsimp only at q0 q1 q2 q3;have hln:(l.take k++List.replicate (l.length - k) (⟨ByteArray.empty,0,0,0⟩:Pu)).length=l.length:=Aag
  go_wp2_with fail;refine(aAu ⟨pk,pm,pf,ps⟩ _).mono ?_;rintro e w5 ⟨rfl,hb5⟩;have jW:=Hq (Rx HB hb5);have lT:=Hq (fO.trans (hb5.mono fO.size));clear hb5 q0 q1 q2 q3;obtain⟨s0,s1,s2,s3⟩:=uH.four jW k Aaa;open Sx9 in exact Yx2
 .exact Zx2):P:=h
theorem aCi.Kx10(h:P:=by
 by_cases hlt:k < l.length
 .obtain⟨g,off,rfl,hgw,q0⟩:=eu.one (GR.At.below HA fO) k hlt;have TS:=Hq (azp l 0 k hlt);generalize l[k]=pu at *;have hln:(l.take k++List.replicate (l.length - k) (0:Int)).length=l.length:=Aag
  have s0:=wI.one HB k Aaa;have f0:=GR.Blk.free HB k;go_wp2_with fail;first|go_region|skip
  go_roundw
  case rel=>
   have h:=GR.Blk.set HB aQ k Aaa pu;rw [ah TS] at h;have h2:=GR.setW_below (o:=k*1) (Nat.le_refl w.heap.size) (aW pu) fO;rw [Nat.mul_one] at h h2;exact⟨k+1,Aaa,Aai,h,h2⟩
  case measure=>simp[intOf];omega
 .exact Zx2):P:=h
theorem aCj.Kx10(h:P:=by
 by_cases hlt:k < l.length
 .obtain⟨g,off,rfl,hgw,q0,q1,q2,q3⟩:=SentAt.four (GR.At.below HA fO) k hlt;have TS:=Hq (ayw l ⟨0,0,ByteArray.empty,0⟩ k hlt);generalize l[k]=pu at *;obtain⟨pi,pt,pk,pn⟩:=pu;dsimp only at q0 q1 q2 q3;have hln:(l.take k++List.replicate (l.length - k) (⟨0,0,ByteArray.empty,0⟩:kC)).length=l.length:=Aag
  go_wp2_with fail;refine(aA0 ⟨pi,pt,pk,pn⟩ _).mono ?_;rintro e w5 ⟨rfl,hb5⟩;have jW:=Hq (uT.step HB hb5);have lT:=Hq (fO.trans (hb5.mono fO.size));clear hb5 q0 q1 q2 q3;obtain⟨s0,s1,s2,s3⟩:=uT.four jW k Aaa;open aBN in exact Yx2
 .exact Zx2):P:=h
theorem aCk.Kx10(h:P:=by
 by_cases hlt:k < l.length
 .obtain⟨g,off,rfl,hgw,q0,q1,q2,q3⟩:=iU.four (GR.At.below HA fO) k hlt;have TS:=Hq (ayD l ⟨0,ByteArray.empty,0,0⟩ k hlt);generalize l[k]=pu at *;obtain⟨pno,pk,pn,ps⟩:=pu;dsimp only at q0 q1 q2 q3;have hln:(l.take k++List.replicate (l.length - k) (⟨0,ByteArray.empty,0,0⟩:Rq)).length=l.length:=Aag
  go_wp2_with fail;refine(aBE ⟨pno,pk,pn,ps⟩ _).mono ?_;rintro e w5 ⟨rfl,hb5⟩;have jW:=Hq (zx.step HB hb5);have lT:=Hq (fO.trans (hb5.mono fO.size));clear hb5 q0 q1 q2 q3;obtain⟨s0,s1,s2,s3⟩:=zx.four jW k Aaa;open aBO in exact Yx2
 .exact Zx2):P:=h
theorem aBo(h:P:=by
 obtain⟨b1,b2,b3,b4,b5,b6,b7,b8⟩:=azW hz;have HS:Hid (sP n=1+n.kids.length/\sO n=sP n+4*n.pu.length/\sS n=sO n+4*n.out.length/\sR n=ax3 (sS n) n.seen/\ayj n=sR n+4*n.reqs.length):=⟨rfl,rfl,rfl,rfl,rfl⟩;exact Kx11):P:=h
theorem aCl.Kx11(h:P:=by
 rw [show ayz n=⟨n.id,n.par,mks mkInt 1 1 n.kids n.kids.length,n.next,mks ax0 4 (sP n) n.pu n.pu.length,mks ax2 4 (sO n) n.out n.out.length,ax7 (sS n) n.seen,n.old,mks ax6 4 (sR n) n.reqs n.reqs.length⟩ from rfl] at ha;have HA:=Hq ha;have HZ:=Hq hz;have HB0:=Hq (heap_alloc_new w (.cells (dH n A) 30));have KN:=Hq (aj w (.cells (dH n A) 30));clear ha hz;generalize ayj n=EN at *;generalize sP n=s1 at *;generalize sO n=s2 at *;generalize sS n=s3 at *;generalize sR n=s4 at *;have HKK:=Hq (λz W (hb:aX w W) (hz:z=((1:Nat):Int))=>ayy A.k G.k A.ck n.kids.length 1 z n.kids W hz rfl Aaa Aaa HZ.k (HA.below hb).k);have HPP:=Hq (λz W (hb:aX w W) (hz:z=(s1:Int))=>ayJ A.p G.p A.cp n.pu.length s1 z n.pu W hz rfl b1 Aaa HZ.p (HA.below hb).p);have HOO:=Hq (λz W (hb:aX w W) (hz:z=(s2:Int))=>azg A.o G.o A.co n.out.length s2 z n.out W hz rfl b3 Aaa HZ.o (HA.below hb).o);have HSS:=Hq (λz W (hb:aX w W) (hz:z=(s3:Int))=>aze A.s G.s A.cs n.seen.length s3 z G.i n.seen W hz rfl b5 b6 HZ.s HZ.sk (HA.below hb).s);have HRR:=Hq (λz W (hb:aX w W) (hz:z=(s4:Int))=>azJ A.r G.r A.cr n.reqs.length s4 z n.reqs W hz rfl b7 Aaa HZ.r (HA.below hb).r);have hzk:=HZ.k;have hzp:=HZ.p;have hzo:=HZ.o;have hzs:=HZ.s;have hzr:=HZ.r;clear HA HZ;open aB1 in exact Yx5):P:=h
theorem aCm.Kx11(h:P:=by
 have HMN:=Hq (show ayz n=⟨n.id,n.par,mks mkInt 1 1 n.kids n.kids.length,n.next,mks ax0 4 (sP n) n.pu n.pu.length,mks ax2 4 (sO n) n.out n.out.length,ax7 (sS n) n.seen,n.old,mks ax6 4 (sR n) n.reqs n.reqs.length⟩ from rfl);unfold aV.all at hnd;simp only[List.nodup_append,List.mem_append] at hnd;obtain⟨_,⟨_,⟨_,⟨n4,⟨n5,n6,d6⟩,d5⟩,d4⟩,d3⟩,d2⟩:=hnd;have HK0:=Hq (ha.k.below hb0);have HP0:=Hq (ha.p.below hb0);have HO0:=Hq (ha.o.below hb0);have aAB:=Hq (ha.s.below hb0);have HR0:=Hq (ha.r.below hb0);have HB0:=Hq (heap_alloc_new w (.cells (dH n A) 30));have HL:=Hq (And.intro (ara ha.k) (And.intro (ara ha.p) (And.intro (ara ha.o) (And.intro (azv ha.s) (ara ha.r)))));have aA8:Hid (aC (G.all n) w (w.alloc (.cells (dH n A) 30))):=aC.of_below hb0;have mV:=Hq (λx=>(@aV.mem_all G n x).2);have HZ:=Hq hz;have HD2:=Hq d2;have HD3:=Hq d3;have HD4:=Hq d4;have HD5:=Hq d5;have HD6:=Hq d6;have aBa:Hid ((fp G.s n.seen++qw G.i n.seen).Nodup):=List.nodup_append.2 ⟨n4,n5,λa ha b hb=>d5 a ha b (.inl hb)⟩;clear ha hz hb0 n4 n5 n6 d2 d3 d4 d5 d6;generalize G.all n=GA at *;generalize ayz n=MN at *;generalize ayj n=EN at *;generalize sP n=s1 at *;generalize sO n=s2 at *;generalize sS n=s3 at *;generalize sR n=s4 at *;open aB2 in exact Yx5):P:=h
theorem aAF(h:P:=by
 have e1:(m:Int)+1+1=m+2:=Aaa
 have e3:(m:Int)+2+1=m+3:=Aaa
 (try simp only[e1,e3] at HB1 ⊢)
 exact Kx12):P:=h
theorem aCn.Kx12(h:P:=by
 have h1:=GR.C.set h0 (k*4) (.int .i64 (ax6 m).no);have hB:=GR.C.below h1 HB1;have h2:=GR.C.set hB (k*4+1) (.string (ax6 m).k);have h3:=GR.C.set h2 (k*4+2) (.int .i64 (ax6 m).n);have h4:=GR.C.set h3 (k*4+3) (.int .i64 (ax6 m).s);have hf:=GR.flat_set aM 4 bg (mks ax6 4 s l k) k (ax6 m) Adt;have h5:=GR.C.toW (enc:=aM) (l:=(mks ax6 4 s l k).set k (ax6 m)) bg Aaa (by rw [<-hf];exact h4);have hmk:ax6 m=ax6 (s+4*k):=by rw [ah HM]
 rw [hmk,aym ax6 4 s l k hlt,<-hmk] at h5;refine⟨k+1,m+4,Aaa,Aai,Aai,by have:=ah HM;omega,h5,?_⟩;exact(((((HK.trans (ax4 (aC.set _) hpos)).trans (aC.of_below HB1)).trans (ax4 (aC.set _) hpos)).trans (ax4 (aC.set _) hpos)).trans (ax4 (aC.set _) hpos))):P:=h
theorem aCo.Kx12(h:P:=by
 have h1:=GR.C.set h0 (k*4) (.int .i64 (ax2 m).i);have h2:=GR.C.set h1 (k*4+1) (.int .i64 (ax2 m).t);have hB:=GR.C.below h2 HB1;have h3:=GR.C.set hB (k*4+2) (.string (ax2 m).k);have h4:=GR.C.set h3 (k*4+3) (.int .i64 (ax2 m).n);have hf:=GR.flat_set aR 4 cZ (mks ax2 4 s l k) k (ax2 m) Adt;have h5:=GR.C.toW (enc:=aR) (l:=(mks ax2 4 s l k).set k (ax2 m)) cZ Aaa (by rw [<-hf];exact h4);have hmk:ax2 m=ax2 (s+4*k):=by rw [ah HM]
 rw [hmk,aym ax2 4 s l k hlt,<-hmk] at h5;refine⟨k+1,m+4,Aaa,Aai,Aai,by have:=ah HM;omega,h5,?_⟩;exact(((((HK.trans (ax4 (aC.set _) hpos)).trans (ax4 (aC.set _) hpos)).trans (aC.of_below HB1)).trans (ax4 (aC.set _) hpos)).trans (ax4 (aC.set _) hpos))):P:=h
theorem aCp.Kx12(h:P:=by
 have hB:=GR.C.below h0 HB1;have h1:=GR.C.set hB (k*4) (.string (ax0 m).k);have h2:=GR.C.set h1 (k*4+1) (.int .i64 (ax0 m).m);have h3:=GR.C.set h2 (k*4+2) (.int .i64 (ax0 m).f);have h4:=GR.C.set h3 (k*4+3) (.int .i64 (ax0 m).s);have hf:=GR.flat_set fE 4 aZ (mks ax0 4 s l k) k (ax0 m) Adt;have h5:=GR.C.toW (enc:=fE) (l:=(mks ax0 4 s l k).set k (ax0 m)) aZ Aaa (by rw [<-hf];exact h4);have hmk:ax0 m=ax0 (s+4*k):=by rw [ah HM]
 rw [hmk,aym ax0 4 s l k hlt,<-hmk] at h5;refine⟨k+1,m+4,Aaa,Aai,Aai,by have:=ah HM;omega,h5,?_⟩;exact(((((HK.trans (aC.of_below HB1)).trans (ax4 (aC.set _) hpos)).trans (ax4 (aC.set _) hpos)).trans (ax4 (aC.set _) hpos)).trans (ax4 (aC.set _) hpos))):P:=h
end Go.Proofs.YtacgbldlonoaaaaGreatDoor
