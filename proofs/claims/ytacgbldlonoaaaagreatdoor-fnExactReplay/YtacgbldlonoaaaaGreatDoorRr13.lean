/- Parts. -/
import Derived.Test.YtacgbldlonoaaaaGreatDoorRr12
import Derived.Test.YtacgbldlonoaaaaGreatDoorRr9
namespace Go.Proofs.YtacgbldlonoaaaaGreatDoor
set_option maxHeartbeats 8000000
set_option maxRecDepth 100000
open Go.RowKit
open Mth
theorem Ea (w:World):Calls Tryz.prog 182 #[.string ByteArray.empty] w (eP w (.tuple #[.agg (bJ 0 0 0 0 0 ⟨#[]⟩ 0),.bool false])):=by
 go_enter Tryz.func182,Tryz.ntmps182
 go_wp2_with fail;exact bodyPost_ret (v:= .tuple #[.agg (bJ 0 0 0 0 0 ⟨#[]⟩ 0),.bool false]) (by simp[results,Tryz.results182,go_sem]) rfl ⟨rfl,aj w _⟩
theorem BL (s:ByteArray) (hs:s.size<=maxLen) (h0:0 < s.size) (w:World):Calls Tryz.prog 182 #[.string s] w (eP w (Bz s)):=by
 have HN:=Hq (λw1=>l04Nums s hs w1);have HT:=Hq (λw1=>Ke s (gI s 4) hs w1);have HG:=Hq (λw1=>J8 s (iO s (gI s 4)) hs w1)
 have hcs:(cand s).k.size<=maxLen:=by
  show(jc s (gI s 4)).size<=maxLen
  by_cases h:0<=iO s (gI s 4)
  .exact Nat.le_trans (iE h).2.2.2.1 Aah
  .unfold iO at h;unfold jc;cases hG:textOf s (gI s 4).toNat (gU s (gI s 4)) with
   |none=>simp[Vb]
   |some p=>rw [hG] at h;exact absurd (by simp[OH]) h
 have HP:=Hq (λw1=>El (cand s) w1 hcs);have HO:=Hq (Dg h0);open ak1 in exact arX
theorem QC (s:ByteArray) (hs:s.size<=maxLen) (w:World):Calls Tryz.prog 182 #[.string s] w (eP w (Bz s)):=by
 by_cases h0:s.size=0
 .obtain rfl:=eq_empty s h0;rw [Ch (show jH ByteArray.empty=false by unfold jH;simp)];exact Ea w
 .exact BL s hs Aaa w
def Jd (s:ByteArray):Value:= .tuple #[jB (getOp s),.bool (j6 s)]
theorem RA {s:ByteArray} (h:j6 s=false):Jd s= .tuple #[.agg (bY 0 0 ⟨#[]⟩ 0 0 0 0 0 0 ⟨#[]⟩ 0),.bool false]:=by
 unfold Jd getOp;rw [h,if_neg Aac];rfl
theorem FH (w:World):Calls Tryz.prog 140 #[.string ByteArray.empty] w (eP w (.tuple #[.agg (bY 0 0 ⟨#[]⟩ 0 0 0 0 0 0 ⟨#[]⟩ 0),.bool false])):=by
 go_enter Tryz.func140,Tryz.ntmps140
 go_wp2_with fail;exact bodyPost_ret (v:= .tuple #[.agg (bY 0 0 ⟨#[]⟩ 0 0 0 0 0 0 ⟨#[]⟩ 0),.bool false]) (by simp[results,Tryz.results140,go_sem]) rfl ⟨rfl,aj w _⟩
theorem Ec (s:ByteArray) (hs:s.size<=maxLen) (h0:0 < s.size) (w:World):Calls Tryz.prog 140 #[.string s] w (eP w (Jd s)):=by
 have xq:=Hq (λw1=>J8 s 1 hs w1);have HT1:=Hq (λw1=>Ke s (jK s 1) hs w1);have KP:Hid (∀w1:World,Calls Tryz.prog 181 #[.string s,.int .i64 (iO s (jK s 1))] w1 (eP w1 (.tuple #[.int .i64 (sH s (iO s (jK s 1))),.int .i64 (Hy s)]))):=λw1=>J8 s (iO s (jK s 1)) hs w1
 have HT2:Hid (∀w1:World,Calls Tryz.prog 139 #[.string s,.int .i64 (Hy s)] w1 (eP w1 (.tuple #[.string (zh s),.int .i64 (JD s)]))):=λw1=>Ke s (Hy s) hs w1
 have hbz:(zh s).size<=maxLen:=Nat.le_trans (qY s (Hy s)) Aah;have HG:=Hq (λw1=>QC (zh s) hbz w1);unfold Bz at HG;have HP:=Hq (λw1=>UY (opC s) w1 (Nat.le_trans (qY s (jK s 1)) Aah) (Nat.le_trans (Ze (zh s)) Aah));have HO:=Hq (TH h0);have hC:opC s=⟨s[0].toNat,sH s 1,jc s (jK s 1),sH s (iO s (jK s 1)),lW (zh s)⟩:=by unfold opC;rw [Jg h0]
 have HM:=Hq (show j6 s=true->Jd s= .tuple #[jB (opC s),.bool true] from λh=>by unfold Jd getOp;rw [h,if_pos rfl]);have HZ:=Hq (show j6 s=false->Jd s= .tuple #[.agg (bY 0 0 ⟨#[]⟩ 0 0 0 0 0 0 ⟨#[]⟩ 0),.bool false] from RA);rw [show pW s=(decide ((zh s).size=0)||jH (zh s)) from rfl] at HO;rw [hC] at HP HM HO;clear hbz hC;have hne:=jS s h0;have hi0:(0:Int) < (s.size:Int):=Aaa
 generalize Jd s=RES at *;generalize j6 s=OK at *;generalize lW (zh s)=m at *;generalize jH (zh s)=mo at *;open aod in exact acO
theorem UU (s:ByteArray) (hs:s.size<=maxLen) (w:World):Calls Tryz.prog 140 #[.string s] w (eP w (Jd s)):=by
 by_cases h0:s.size=0
 .obtain rfl:=eq_empty s h0;rw [RA (show j6 ByteArray.empty=false by unfold j6;simp)];exact FH w
 .exact Ec s hs Aaa w
def iD (s:ByteArray):ByteArray:=s.extract 4 (min s.size 1006)
def BP (s:ByteArray):ByteArray:=jc (iD s) 0
def yR (s:ByteArray):Int:=iO (iD s) 0
theorem qW (s:ByteArray):(iD s).size=min s.size 1006 - 4:=by
 unfold iD;rw [ByteArray.size_extract];omega
theorem abr (n:Nat) (h:n<=1000):(Mth.put n).length<=2:=by
 unfold Mth.put;by_cases h1:n<=127
 .rw [iZ _ _ h1];simp
 .rw [mE _ _ h1,iZ _ _ Aaa];simp
theorem Zl (s:ByteArray):(nJ s).size<=1002:=by
 unfold nJ;split
 .rename_i h
  unfold qg;have:=abr s.size h;rw [size_of_list,List.length_append,bn];omega
 .decide
theorem DY (s:ByteArray) (i:Int):(jc s i).size<=1000:=by
 exact as0
theorem Qv (s:ByteArray) (i:Int):iO s i<=s.size:=by
 by_cases h:0<=iO s i
 .exact(iE h).2.2.1
 .omega
def BytesAt (w:World) (g:Nat) (s:ByteArray):Prop:=∀i (hi:i < s.size),w.cell? ⟨g,i,none⟩=some (.int .u8 (s[i].toNat:Int))
theorem BytesAt.below {w w':World} {g:Nat} {s:ByteArray} (h:BytesAt w g s) (hg:g < w.heap.size) (hb:aX w w'):BytesAt w' g s:=λi hi=>by rw [(Ar hb).1 g i hg];exact h i hi
theorem aaR (b off i:Nat):(⟨b,off,none⟩:Addr).add i=⟨b,off+i,none⟩:=by unfold Addr.add;split<;>simp_all
theorem rM {w:World} {g:Nat} {s:ByteArray} (h:BytesAt w g s) (lo n cap:Nat) (hn:lo+n<=s.size):(convert 22 9 (.slice (some ⟨g,lo,none⟩) n cap)).run Tryz.prog w= .ok (.string (s.extract lo (lo+n))) w:=by
 have hl:(s.extract lo (lo+n)).data.toList.length=n:=by rw [bn,ByteArray.size_extract];omega
 have hc:=run_convert_bytes_back (P:=Tryz.prog) w 22 9 5 ⟨g,lo,none⟩ cap (s.extract lo (lo+n)).data.toList Tryz.underlying22 Tryz.underlying5 Tryz.underlying9 (λj hj=>by
  rw [aaR,h (lo+j) Aaa]
  congr 3
  have e:(s.extract lo (lo+n)).data.toList[j]=s.data.toList[lo+j]'(by rw [bn];omega):=by
   simp only[Lib.extract_data];rw [List.getElem_take,List.getElem_drop]
  rw [e]
  rfl)
 rw [hl] at hc;exact hc
theorem PG (s:ByteArray) (w:World):∃(cap:Nat) (w1:World),(convert 9 22 (.string s)).run Tryz.prog w= .ok (.slice (some ⟨w.heap.size,0,none⟩) s.size cap) w1/\s.size<=cap/\BytesAt w1 w.heap.size s/\w.heap.size < w1.heap.size/\aX w w1:=by
 refine⟨_,_,run_bytes_of_string (P:=Tryz.prog) w 9 22 5 s Tryz.underlying9 Tryz.underlying22 Tryz.underlying5,?_,?_,?_,?_⟩
 .exact grownCap_ge w s.size 0 5
 .intro i hi;have h:=World.cell?_alloc_mark w.drew (bytesRow s (grownCap w s.size 0 5)) 5 ((bytesRow s (grownCap w s.size 0 5)).size,(bytesRow s (grownCap w s.size 0 5)).size+1) i;refine Eq.trans h ?_;rw [bytesRow_at s _ i hi];rfl
 .simp
 .exact((Below.refl _ w).drew).alloc (Nat.le_refl _) _
def tl (s:ByteArray) (a:Nat):ByteArray:=s.extract a s.size
theorem vG (s:ByteArray) (a:Nat):(tl s a).size=s.size - a:=by unfold tl;rw [ByteArray.size_extract];omega
theorem Kn (s:ByteArray) (a i j:Nat) (h:a+j<=s.size):(tl s a).extract i j=s.extract (a+i) (a+j):=by
 apply ByteArray.ext
 apply Array.ext'
 unfold tl;rw [Lib.extract_data,Lib.extract_data,Lib.extract_data];rw [List.drop_take,List.drop_drop,List.take_take];congr 1
 omega
def PV (s:ByteArray) (a:Nat):Prop:=4<=(tl s a).size/\0<=yR (tl s a)/\kR (jA (BP (tl s a)))=(tl s a).extract 0 4
instance (s:ByteArray) (a:Nat):Decidable (PV s a):=by unfold PV;exact inferInstance
def EC (s:ByteArray) (a:Nat):ByteArray:=if PV s a then BP (tl s a) else ByteArray.empty
def EP (s:ByteArray) (a:Nat):Int:=if PV s a then a+4+yR (tl s a) else -1
theorem Ck (s:ByteArray) (a:Nat) (h:a+4<=s.size):iD (tl s a)=s.extract (a+4) (a+min (s.size - a) 1006):=by
 unfold iD;rw [vG,Kn _ _ _ _ Aaa]
theorem ER (s:ByteArray) (a g cap:Nat) (w:World) (hs:s.size<=60000) (ha:a<=s.size) (h:s.size < a+4):Calls Tryz.prog 144 #[.slice (some ⟨g,0,none⟩) s.size cap,.int .i64 a] w (eP w (.tuple #[.string ByteArray.empty,.int .i64 (-1)])):=by
 have h1:(s.size:Int)<=(a:Int)+1006:=Aaa
 have h2:(s.size:Int) - (a:Int) < 4:=Aaa
 clear h;go_enter Tryz.func144,Tryz.ntmps144
 go_wp2_with fail;exact bodyPost_ret (v:= .tuple #[.string ⟨#[]⟩,.int .i64 (-1)]) Acn rfl ⟨rfl,Below.refl _ _⟩
theorem zH (s:ByteArray) (hs:s.size<=60000) (a g cap:Nat) (hcap:s.size<=cap) (w:World) (h4:s.size=a+4) (hc:BytesAt w g s) (_hg:g < w.heap.size) (hH:Handle w) (hz:yR (tl s a) < 0):Calls Tryz.prog 144 #[.slice (some ⟨g,0,none⟩) s.size cap,.int .i64 a] w (eP w (.tuple #[.string ByteArray.empty,.int .i64 (-1)])):=by
 have hr:(convert 22 9 (.slice (some ⟨g,0,none⟩) 0 0)).run Tryz.prog w= .ok (.string (iD (tl s a))) w:=by
  rw [Ck s a Aaa];have h:=rM hc 0 0 0 Aaa;rw [h];congr 2
  rw [show min (s.size - a) 1006=4 by omega];apply ByteArray.ext
  apply Array.ext'
  rw [Lib.extract_data,Lib.extract_data];simp
 have ha:a<=59996:=Aaa
 have h1:(a:Int)+4<=(a:Int)+1006:=Aaa
 have h2:¬((a:Int)+4 - (a:Int) < 4):=Aaa
 have hcap2:(a:Int)+4<=(cap:Int):=Aaa
 have hmn:min (4:Int) 1006=4:=rfl
 have hmo:min ((a:Int)+4) ((a:Int)+1006)=(a:Int)+4:=Int.min_eq_left Aaa
 open aiu in exact aaH
theorem Bw (s:ByteArray) (hs:s.size<=60000) (a g cap:Nat) (hcap:s.size<=cap) (w:World) (h5:a+5<=s.size) (h6:s.size<=a+1006) (hc:BytesAt w g s) (_hg:g < w.heap.size) (hH:Handle w) (hz:yR (tl s a) < 0):Calls Tryz.prog 144 #[.slice (some ⟨g,0,none⟩) s.size cap,.int .i64 a] w (eP w (.tuple #[.string ByteArray.empty,.int .i64 (-1)])):=by
 have hmn:min (s.size:Int) ((a:Int)+1006)=(s.size:Int):=Int.min_eq_left Aaa
 open akW in exact afn
theorem Bv (s:ByteArray) (hs:s.size<=60000) (a g cap:Nat) (hcap:s.size<=cap) (w:World) (h5:a+5<=s.size) (h6:s.size<=a+1006) (hc:BytesAt w g s) (hg:g < w.heap.size) (hH:Handle w) (hz:0<=yR (tl s a)) (hq:¬kR (jA (BP (tl s a)))=(tl s a).extract 0 4):Calls Tryz.prog 144 #[.slice (some ⟨g,0,none⟩) s.size cap,.int .i64 a] w (eP w (.tuple #[.string ByteArray.empty,.int .i64 (-1)])):=by
 have hmn:min (s.size:Int) ((a:Int)+1006)=(s.size:Int):=Int.min_eq_left Aaa
 open akV in exact afn
theorem zK (s:ByteArray) (hs:s.size<=60000) (a g cap:Nat) (hcap:s.size<=cap) (w:World) (h5:a+5<=s.size) (h6:s.size<=a+1006) (hc:BytesAt w g s) (hg:g < w.heap.size) (hH:Handle w) (hz:0<=yR (tl s a)) (hq:kR (jA (BP (tl s a)))=(tl s a).extract 0 4):Calls Tryz.prog 144 #[.slice (some ⟨g,0,none⟩) s.size cap,.int .i64 a] w (eP w (.tuple #[.string (BP (tl s a)),.int .i64 (a+4+yR (tl s a))])):=by
 have hmn:min (s.size:Int) ((a:Int)+1006)=(s.size:Int):=Int.min_eq_left Aaa
 open akU in exact afn
theorem zJ (s:ByteArray) (hs:s.size<=60000) (a g cap:Nat) (hcap:s.size<=cap) (w:World) (h7:a+1006 < s.size) (hc:BytesAt w g s) (_hg:g < w.heap.size) (hH:Handle w) (hz:yR (tl s a) < 0):Calls Tryz.prog 144 #[.slice (some ⟨g,0,none⟩) s.size cap,.int .i64 a] w (eP w (.tuple #[.string ByteArray.empty,.int .i64 (-1)])):=by
 have hmn:min (s.size:Int) ((a:Int)+1006)=(a:Int)+1006:=Int.min_eq_right Aaa
 open ak6 in exact afp
theorem zI (s:ByteArray) (hs:s.size<=60000) (a g cap:Nat) (hcap:s.size<=cap) (w:World) (h7:a+1006 < s.size) (hc:BytesAt w g s) (hg:g < w.heap.size) (hH:Handle w) (hz:0<=yR (tl s a)) (hq:¬kR (jA (BP (tl s a)))=(tl s a).extract 0 4):Calls Tryz.prog 144 #[.slice (some ⟨g,0,none⟩) s.size cap,.int .i64 a] w (eP w (.tuple #[.string ByteArray.empty,.int .i64 (-1)])):=by
 have hmn:min (s.size:Int) ((a:Int)+1006)=(a:Int)+1006:=Int.min_eq_right Aaa
 open ak5 in exact afp
theorem xS (s:ByteArray) (hs:s.size<=60000) (a g cap:Nat) (hcap:s.size<=cap) (w:World) (h7:a+1006 < s.size) (hc:BytesAt w g s) (hg:g < w.heap.size) (hH:Handle w) (hz:0<=yR (tl s a)) (hq:kR (jA (BP (tl s a)))=(tl s a).extract 0 4):Calls Tryz.prog 144 #[.slice (some ⟨g,0,none⟩) s.size cap,.int .i64 a] w (eP w (.tuple #[.string (BP (tl s a)),.int .i64 (a+4+yR (tl s a))])):=by
 have hmn:min (s.size:Int) ((a:Int)+1006)=(a:Int)+1006:=Int.min_eq_right Aaa
 open ak4 in exact afp
theorem OI (s:ByteArray) (h:s.size=4):yR s < 0:=by
 have hsz:=qW s
 have e1:gU (iD s) 0=none:=by
  cases hG:gU (iD s) 0 with
  |none=>rfl
  |some p=>
   obtain⟨n,c⟩:=p
   obtain⟨k,hk0,hk,hc,_⟩:=DW hG
   omega
 unfold yR iO;rw [e1];simp[textOf,OH]
theorem frameAt (s:ByteArray) (hs:s.size<=60000) (a:Nat) (ha:a<=s.size) (g cap:Nat) (hcap:s.size<=cap) (w:World) (hc:BytesAt w g s) (hg:g < w.heap.size) (hH:Handle w):Calls Tryz.prog 144 #[.slice (some ⟨g,0,none⟩) s.size cap,.int .i64 a] w (eP w (.tuple #[.string (EC s a),.int .i64 (EP s a)])):=by
 have ht:=vG s a;unfold EC EP;by_cases h4:4<=(tl s a).size
 case' neg=>
  have hn:¬PV s a:=λh=>h4 h.1
  rw [if_neg hn,if_neg hn]
  exact ER s a g cap w hs ha Aaa
 by_cases h5:(tl s a).size=4
 case' pos=>
  have hz:=OI (tl s a) h5
  have hn:¬PV s a:=λh=>absurd h.2.1 Aaa
  rw [if_neg hn,if_neg hn]
  exact zH s hs a g cap hcap w Aaa hc hg hH hz
 by_cases hz:0<=yR (tl s a)
 case' neg=>
  have hn:¬PV s a:=λh=>hz h.2.1
  rw [if_neg hn,if_neg hn]
  by_cases h6:s.size<=a+1006
  .exact Bw s hs a g cap hcap w Aaa h6 hc hg hH Aaa
  .exact zJ s hs a g cap hcap w Aaa hc hg hH Aaa
 by_cases hq:kR (jA (BP (tl s a)))=(tl s a).extract 0 4
 case' neg=>
  have hn:¬PV s a:=λh=>hq h.2.2
  rw [if_neg hn,if_neg hn]
  by_cases h6:s.size<=a+1006
  .exact Bv s hs a g cap hcap w Aaa h6 hc hg hH hz hq
  .exact zI s hs a g cap hcap w Aaa hc hg hH hz hq
 have hy:PV s a:=⟨h4,hz,hq⟩;rw [if_pos hy,if_pos hy];by_cases h6:s.size<=a+1006
 .exact zK s hs a g cap hcap w Aaa h6 hc hg hH hz hq
 .exact xS s hs a g cap hcap w Aaa hc hg hH hz hq
theorem aa3 (pre y:List UInt8) (n:Nat) (h:n<=4000000000):Mth.get (pre++(Mth.put n++y)) pre.length=some (n,(Mth.put n).length):=by
 have:=XT 5 n 5 0 1 0 y Aaa Aaa Aaa (.inr rfl) Aaa;unfold Mth.get;rw [List.drop_left];simpa [Mth.put] using this
theorem Zv {s:ByteArray} {pre y:List UInt8} {t:ByteArray} (hs:s.data.toList=pre++(Mth.put t.size++(t.data.toList++y))) (h:t.size<=1000) (i:Int) (hi:i=pre.length):jc s i=t/\iO s i=(pre.length+(nJ t).size:Nat):=by
 subst hi;have hg:gU s (pre.length:Int)=some (t.size,(Mth.put t.size).length):=by rw [uV,hs];exact aa3 pre _ t.size Aaa
 have hl:=congrArg List.length hs;rw [bn] at hl;simp only[List.length_append,bn] at hl;have hps:(nJ t).size=(Mth.put t.size).length+t.size:=by unfold nJ;rw [if_pos h];unfold qg;rw [size_of_list,List.length_append,bn]
 have ht:textOf s (pre.length:Int).toNat (gU s (pre.length:Int))=some (t,pre.length+(Mth.put t.size).length+t.size):=by
  rw [hg];unfold textOf;simp only[Int.toNat_natCast];rw [if_neg Aaa];congr 2
  apply ByteArray.ext
  apply Array.ext'
  rw [Lib.extract_data,hs];have e:pre++(Mth.put t.size++(t.data.toList++y))=(pre++Mth.put t.size)++(t.data.toList++y):=Aac
  rw [e,show pre.length+(Mth.put t.size).length=(pre++Mth.put t.size).length by simp,List.drop_left];rw [show(pre++Mth.put t.size).length+t.size - (pre++Mth.put t.size).length=t.data.toList.length by rw [bn];omega,List.take_left]
 unfold jc iO;rw [ht];simp only[Vb,OH];exact⟨trivial,Aaa⟩
theorem Ac {t:ByteArray} (h:t.size<=1000):(nJ t).data.toList=Mth.put t.size++t.data.toList:=by
 unfold nJ;rw [if_pos h];rfl
theorem Rw (s:ByteArray) (a:Nat) (h:a+4<=s.size):(yR (tl s a) < 0/\iO s ((a:Int)+4) < 0)\/(0<=yR (tl s a)/\iO s ((a:Int)+4)=a+4+yR (tl s a)/\jc s ((a:Int)+4)=BP (tl s a)):=by
 have hR:(iD (tl s a)).data.toList=(s.data.toList.drop (a+4)).take (min (s.size - a) 1006 - 4):=by
  rw [Ck s a h,Lib.extract_data];congr 1
  omega
 have hRs:(iD (tl s a)).size=min (s.size - a) 1006 - 4:=by rw [qW,vG]
 unfold yR BP;generalize iD (tl s a)=R at *;have hl:=bn s;have hpl:(a:Int)+4=((s.data.toList.take (a+4)).length:Int):=by rw [List.length_take,hl];omega
 by_cases hz:0<=iO R 0
 .right
  obtain⟨_,_,hle,hsz,hput⟩:=iE hz;have hq:=Ac hsz
  have hzl:(nJ (jc R 0)).size=(iO R 0).toNat:=by
   have:=congrArg List.length hput;rw [bn,List.length_drop,List.length_take,bn] at this;have e0:(0:Int).toNat=0:=rfl;omega
  rw [hR] at hput;simp only[Int.toNat_zero,List.drop_zero] at hput;rw [List.take_take,Nat.min_eq_left Aaa] at hput
  have hs:s.data.toList=s.data.toList.take (a+4)++(Mth.put (jc R 0).size++((jc R 0).data.toList++(s.data.toList.drop (a+4)).drop (iO R 0).toNat)):=by
   rw [<-List.append_assoc (Mth.put _),<-hq,hput,List.take_append_drop,List.take_append_drop]
  obtain⟨h1,h2⟩:=Zv hs hsz ((a:Int)+4) hpl;refine⟨hz,?_,h1⟩;rw [h2,hzl];omega
 .left
  refine⟨Aaa,?_⟩;rcases Int.lt_or_le (iO s ((a:Int)+4)) 0 with h0|h0
  .exact h0
  .exfalso
   obtain⟨_,g2,hle,hsz,hput⟩:=iE h0;have hq:=Ac hsz;have hp2:=Zl (jc s ((a:Int)+4));have ea:((a:Int)+4).toNat=a+4:=Aaa
   rw [ea,List.drop_take] at hput
   have hzl:(nJ (jc s ((a:Int)+4))).size=(iO s ((a:Int)+4)).toNat - (a+4):=by
    have:=congrArg List.length hput;rw [bn,List.length_take,List.length_drop,bn] at this;omega
   have hs:R.data.toList=[]++(Mth.put (jc s ((a:Int)+4)).size++((jc s ((a:Int)+4)).data.toList++R.data.toList.drop ((iO s ((a:Int)+4)).toNat - (a+4)))):=by
    rw [<-List.append_assoc (Mth.put _),<-hq,hput,List.nil_append];conv=>lhs;rw [<-List.take_append_drop ((iO s ((a:Int)+4)).toNat - (a+4)) R.data.toList]
    congr 1
    rw [hR,List.take_take,Nat.min_eq_left Aaa]
   obtain⟨_,h2⟩:=Zv hs hsz 0 rfl;rw [h2] at hz;omega
def BN (s:ByteArray) (a:Nat):Bool:=decide (PV s a)&&j6 (EC s a)
theorem ZI (s:ByteArray) (a:Nat) (h:a+4 < s.size):BN s a=(decide (0<=iO s ((a:Int)+4))&&j6 (jc s ((a:Int)+4))&&decide (s.extract a (a+4)=kR (jA (jc s ((a:Int)+4))))):=by
 unfold BN EC;have hc:=Kn s a 0 4 Aaa;have hs:=vG s a;rcases Rw s a Aaa with⟨h1,h2⟩|⟨h1,h2,h3⟩
 .have hn:¬PV s a:=λh=>absurd h.2.1 Aaa
  rw [decide_eq_false hn,decide_eq_false (show¬0<=iO s ((a:Int)+4) by omega)];rfl
 .rw [decide_eq_true (show 0<=iO s ((a:Int)+4) by omega),h3];by_cases hq:kR (jA (BP (tl s a)))=s.extract a (a+4)
  .have hy:PV s a:=⟨Aaa,h1,by rw [hc];exact hq⟩;rw [decide_eq_true hy,if_pos hy,decide_eq_true hq.symm];simp
  .have hn:¬PV s a:=λh=>hq (by have:=h.2.2;rw [hc] at this;exact this)
   rw [decide_eq_false hn,decide_eq_false (λh=>hq h.symm)];simp
theorem rA {s:ByteArray} {a:Nat} (h:BN s a=true):a+4 < s.size/\EC s a=jc s ((a:Int)+4)/\EP s a=iO s ((a:Int)+4)/\(a:Int)+4 < EP s a/\EP s a<=s.size/\j6 (EC s a)=true/\(EC s a).size<=1000:=by
 unfold BN at h;simp only[Bool.and_eq_true,decide_eq_true_iff] at h;obtain⟨hf,hg⟩:=h;have hs:=vG s a;have h4:=hf.1;have hne:(tl s a).size≠4:=λhe=>by have:=OI _ he;have:=hf.2.1;omega
 have hT:EC s a=BP (tl s a):=if_pos hf;have hE:EP s a=a+4+yR (tl s a):=if_pos hf;rcases Rw s a Aaa with⟨h1,_⟩|⟨h1,h2,h3⟩
 .have:=hf.2.1;omega
 .obtain⟨_,_,k1,k2,k3⟩:=iE (s:=s) (i:=(a:Int)+4) Aaa;have hgs:0 < (EC s a).size:=by unfold j6 at hg;simp only[Bool.and_eq_true,decide_eq_true_iff] at hg;exact hg.1.1.1
  have hpos:0 < yR (tl s a):=by
   have hq:=Ac k2;have:=congrArg List.length (k3.symm.trans hq);rw [List.length_append,List.length_drop,List.length_take,bn,bn] at this;rw [h3] at this;rw [hT] at hgs;omega
  exact⟨Aaa,by rw [hT,h3],by rw [hE,h2],Aaa,Aaa,hg,by rw [hT,<-h3];exact k2⟩
def qR (s:ByteArray):Nat->Nat->List gM×Nat
 |0,a=>([],a)
 |f+1,a=>if BN s a=true then(opC (EC s a)::(qR s f (EP s a).toNat).1,(qR s f (EP s a).toNat).2) else([],a)
def iF (s:ByteArray):List gM×Nat:=if s.size<=60000 then qR s (s.size+1) 0 else([],0)
def xK (s:ByteArray) (a:Nat) (L:List gM):Prop:=L.length<=a/\a<=s.size/\∃f,s.size < a+f/\iF s=(L++(qR s f a).1,(qR s f a).2)
theorem AU (s:ByteArray) (h:s.size<=60000):xK s 0 []:=⟨Nat.le_refl _,Nat.zero_le _,s.size+1,Aaa,by unfold iF;rw [if_pos h];simp⟩
theorem D8 {s:ByteArray} {a:Nat} {L:List gM} (h:xK s a L) (hs:BN s a=true):xK s (EP s a).toNat (L++[opC (EC s a)]):=by
 obtain⟨h1,h2,f,h3,h4⟩:=h;obtain⟨p1,_,_,p2,p3,_⟩:=rA hs;refine⟨by rw [List.length_append];simp;omega,Aaa,?_⟩;cases f with
 |zero=>omega
 |succ f=>
  refine⟨f,Aaa,?_⟩
  rw [h4]
  simp only[qR,if_pos hs]
  rw [List.append_assoc]
  rfl
theorem Ah {s:ByteArray} {a:Nat} {L:List gM} (h:xK s a L) (hs:BN s a=false):iF s=(L,a):=by
 obtain⟨_,h2,f,h3,h4⟩:=h;cases f with
 |zero=>omega
 |succ f=>
  rw [h4]
  simp only[qR,hs,Bool.false_eq_true,if_false]
  rw [List.append_nil]
theorem OD {s:ByteArray} {a:Nat} (h:¬a+4 < s.size):BN s a=false:=by
 cases hs:BN s a with
 |false=>rfl
 |true=>exact absurd (rA hs).1 h
end Go.Proofs.YtacgbldlonoaaaaGreatDoor
