/- Parts. -/
import Derived.Test.YtohmklmkjmlpjaaGreatDoorRk10
namespace Go.Proofs.YtohmklmkjmlpjaaGreatDoor
open Go.Proofs.Tryz
set_option maxHeartbeats 8000000
set_option maxRecDepth 100000
open Go.RowKit
open Mth
variable (s:ByteArray) {w:World} {g:Nat} {t:ByteArray}
theorem FN (w:World):Calls prog 103 #[.string ByteArray.empty] w (eO w (.tuple #[.agg (bX 0 0 0 0 0 ⟨#[]⟩ 0),.bool false])):=by
 go_in
 go_wp2_with fail;exact bodyPost_ret (v:= .tuple #[.agg (bX 0 0 0 0 0 ⟨#[]⟩ 0),.bool false]) (by simp[results,results103,go_sem]) rfl ⟨rfl,ay w _⟩
theorem Dq (hs:s.size<=maxLen) (h0:0 < s.size) (w:World):Calls prog 103 #[.string s] w (eO w (Df s)):=by
 have HN:=Hq (λw1=>afl s hs w1);have HT:=Hq (λw1=>MQ s (gP s 4) hs w1);have HG:=Hq (λw1=>MJ s (jf s (gP s 4)) hs w1)
 have hcs:(cand s).k.size<=maxLen:=by
  show(jW s (gP s 4)).size<=maxLen
  by_cases h:0<=jf s (gP s 4)
  .exact Nat.le_trans (iQ h).2.2.2.1 Aai
  .unfold jf at h;unfold jW;cases hG:textOf s (gP s 4).toNat (iB s (gP s 4)) with
   |none=>simp[YZ]
   |some p=>rw [hG] at h;exact absurd (by simp[Q9]) h
 have HP:=Hq (λw1=>FZ (cand s) w1 hcs);have HO:=Hq (EF h0);open asr in exact agf
theorem Um (hs:s.size<=maxLen) (w:World):Calls prog 103 #[.string s] w (eO w (Df s)):=by
 by_cases h0:s.size=0
 .obtain rfl:=eq_empty s h0;rw [DR (show jS ByteArray.empty=false by unfold jS;simp)];exact FN w
 .exact Dq s hs Aaa w
def KI (s:ByteArray):Value:= .tuple #[jJ (getOp s),.bool (kN s)]
theorem VI {s:ByteArray} (h:kN s=false):KI s= .tuple #[.agg (bY 0 0 ⟨#[]⟩ 0 0 0 0 0 0 ⟨#[]⟩ 0),.bool false]:=by
 unfold KI getOp;rw [h,if_neg Aac];rfl
theorem Hz (w:World):Calls prog 54 #[.string ByteArray.empty] w (eO w (.tuple #[.agg (bY 0 0 ⟨#[]⟩ 0 0 0 0 0 0 ⟨#[]⟩ 0),.bool false])):=by
 go_in
 go_wp2_with fail;exact bodyPost_ret (v:= .tuple #[.agg (bY 0 0 ⟨#[]⟩ 0 0 0 0 0 0 ⟨#[]⟩ 0),.bool false]) (by simp[results,results54,go_sem]) rfl ⟨rfl,ay w _⟩
theorem FT (hs:s.size<=maxLen) (h0:0 < s.size) (w:World):Calls prog 54 #[.string s] w (eO w (KI s)):=by
 have yO:=Hq (λw1=>MJ s 1 hs w1);have HT1:=Hq (λw1=>MQ s (jU s 1) hs w1);have Ke:Hid (∀w1:World,Calls prog 102 #[.string s,.int .i64 (jf s (jU s 1))] w1 (eO w1 (.tuple #[.int .i64 (uw s (jf s (jU s 1))),.int .i64 (JF s)]))):=λw1=>MJ s (jf s (jU s 1)) hs w1
 have HT2:Hid (∀w1:World,Calls prog 53 #[.string s,.int .i64 (JF s)] w1 (eO w1 (.tuple #[.string (AA s),.int .i64 (LH s)]))):=λw1=>MQ s (JF s) hs w1
 have hbz:(AA s).size<=maxLen:=Nat.le_trans (sD s (JF s)) Aai;have HG:=Hq (λw1=>Um (AA s) hbz w1);unfold Df at HG;have HP:=Hq (λw1=>YK (opC s) w1 (Nat.le_trans (sD s (jU s 1)) Aai) (Nat.le_trans (acW (AA s)) Aai));have HO:=Hq (Xr h0);have hC:opC s=⟨s[0].toNat,uw s 1,jW s (jU s 1),uw s (jf s (jU s 1)),mO (AA s)⟩:=by unfold opC;rw [KP h0]
 have HM:=Hq (show kN s=true->KI s= .tuple #[jJ (opC s),.bool true] from λh=>by unfold KI getOp;rw [h,if_pos rfl]);have HZ:=Hq (show kN s=false->KI s= .tuple #[.agg (bY 0 0 ⟨#[]⟩ 0 0 0 0 0 0 ⟨#[]⟩ 0),.bool false] from VI);rw [show qJ s=(decide ((AA s).size=0)||jS (AA s)) from rfl] at HO;rw [hC] at HP HM HO;clear hbz hC;have hne:=kC s h0;have hi0:(0:Int) < (s.size:Int):=Aaa
 generalize KI s=RES at *;generalize kN s=OK at *;generalize mO (AA s)=m at *;generalize jS (AA s)=mo at *;open awt in exact ahc
theorem YI (hs:s.size<=maxLen) (w:World):Calls prog 54 #[.string s] w (eO w (KI s)):=by
 by_cases h0:s.size=0
 .obtain rfl:=eq_empty s h0;rw [VI (show kN ByteArray.empty=false by unfold kN;simp)];exact Hz w
 .exact FT s hs Aaa w
def iP (s:ByteArray):ByteArray:=s.extract 4 (min s.size 1006)
def Du (s:ByteArray):ByteArray:=jW (iP s) 0
def Ak (s:ByteArray):Int:=jf (iP s) 0
theorem rZ:(iP s).size=min s.size 1006 - 4:=by
 unfold iP;rw [ByteArray.size_extract];omega
theorem afz (n:Nat) (h:n<=1000):(Mth.put n).length<=2:=by
 unfold Mth.put;by_cases h1:n<=127
 .rw [jo _ _ h1];simp
 .rw [nu _ _ h1,jo _ _ Aaa];simp
theorem ac4:(og s).size<=1002:=by
 unfold og;split
 .rename_i h
  unfold qU;have:=afz s.size h;rw [size_of_list,List.length_append,bE];omega
 .decide
theorem FD (i:Int):(jW s i).size<=1000:=by
 exact aiJ
theorem Ue (i:Int):jf s i<=s.size:=by
 by_cases h:0<=jf s i
 .exact(iQ h).2.2.1
 .omega
def BytesAt (w:World) (g:Nat) (s:ByteArray):Prop:=∀i (hi:i < s.size),w.cell? ⟨g,i,none⟩=some (.int .u8 (s[i].toNat:Int))
theorem BytesAt.below {w':World} {s:ByteArray} (h:BytesAt w g s) (hg:g < w.heap.size) (hb:aI w w'):BytesAt w' g s:=λi hi=>by rw [(Cg hb).1 g i hg];exact h i hi
theorem aeI (b off i:Nat):(⟨b,off,none⟩:Addr).add i=⟨b,off+i,none⟩:=by unfold Addr.add;split<;>simp_all
theorem tJ {s:ByteArray} (h:BytesAt w g s) (lo n cap:Nat) (hn:lo+n<=s.size):(convert 162 9 (.slice (some ⟨g,lo,none⟩) n cap)).run prog w= .ok (.string (s.extract lo (lo+n))) w:=by
 have hl:(s.extract lo (lo+n)).data.toList.length=n:=by rw [bE,ByteArray.size_extract];omega
 have hc:=run_convert_bytes_back (P:=prog) w 162 9 5 ⟨g,lo,none⟩ cap (s.extract lo (lo+n)).data.toList underlying162 underlying5 underlying9 (λj hj=>by
  rw [aeI,h (lo+j) Aaa]
  congr 3
  have e:(s.extract lo (lo+n)).data.toList[j]=s.data.toList[lo+j]'(by rw [bE];omega):=by
   simp only[Lib.extract_data];rw [List.getElem_take,List.getElem_drop]
  rw [e]
  rfl)
 rw [hl] at hc;exact hc
theorem Sz (w:World):∃(cap:Nat) (w1:World),(convert 9 162 (.string s)).run prog w= .ok (.slice (some ⟨w.heap.size,0,none⟩) s.size cap) w1/\s.size<=cap/\BytesAt w1 w.heap.size s/\w.heap.size < w1.heap.size/\aI w w1:=by
 refine⟨_,_,run_bytes_of_string (P:=prog) w 9 162 5 s underlying9 underlying162 underlying5,?_,?_,?_,?_⟩
 .exact grownCap_ge w s.size 0 5
 .intro i hi;have h:=World.cell?_alloc_mark w.drew (bytesRow s (grownCap w s.size 0 5)) 5 ((bytesRow s (grownCap w s.size 0 5)).size,(bytesRow s (grownCap w s.size 0 5)).size+1) i;refine Eq.trans h ?_;rw [bytesRow_at s _ i hi];rfl
 .simp
 .exact((Below.refl _ w).drew).alloc (Nat.le_refl _) _
def tl (s:ByteArray) (a:Nat):ByteArray:=s.extract a s.size
theorem wJ (a:Nat):(tl s a).size=s.size - a:=by unfold tl;rw [ByteArray.size_extract];omega
theorem Cc (a i j:Nat) (h:a+j<=s.size):(tl s a).extract i j=s.extract (a+i) (a+j):=by
 apply ByteArray.ext
 apply Array.ext'
 unfold tl;rw [Lib.extract_data,Lib.extract_data,Lib.extract_data];rw [List.drop_take,List.drop_drop,List.take_take];congr 1
 omega
def SL (s:ByteArray) (a:Nat):Prop:=4<=(tl s a).size/\0<=Ak (tl s a)/\mE (kE (Du (tl s a)))=(tl s a).extract 0 4
instance (s:ByteArray) (a:Nat):Decidable (SL s a):=by unfold SL;exact inferInstance
def Gj (s:ByteArray) (a:Nat):ByteArray:=if SL s a then Du (tl s a) else ByteArray.empty
def Gw (s:ByteArray) (a:Nat):Int:=if SL s a then a+4+Ak (tl s a) else -1
theorem DV (a:Nat) (h:a+4<=s.size):iP (tl s a)=s.extract (a+4) (a+min (s.size - a) 1006):=by
 unfold iP;rw [wJ,Cc _ _ _ _ Aaa]
theorem Gz (a g cap:Nat) (w:World) (hs:s.size<=60000) (ha:a<=s.size) (h:s.size < a+4):Calls prog 165 #[.slice (some ⟨g,0,none⟩) s.size cap,.int .i64 a] w (eO w (.tuple #[.string ByteArray.empty,.int .i64 (-1)])):=by
 have h1:(s.size:Int)<=(a:Int)+1006:=Aaa
 have h2:(s.size:Int) - (a:Int) < 4:=Aaa
 clear h;go_in
 go_wp2_with fail;exact bodyPost_ret (v:= .tuple #[.string ⟨#[]⟩,.int .i64 (-1)]) Acp rfl ⟨rfl,Below.refl _ _⟩
theorem Bf (hs:s.size<=60000) (a g cap:Nat) (hcap:s.size<=cap) (w:World) (h4:s.size=a+4) (hc:BytesAt w g s) (_hg:g < w.heap.size) (hH:Handle w) (hz:Ak (tl s a) < 0):Calls prog 165 #[.slice (some ⟨g,0,none⟩) s.size cap,.int .i64 a] w (eO w (.tuple #[.string ByteArray.empty,.int .i64 (-1)])):=by
 have hr:(convert 162 9 (.slice (some ⟨g,0,none⟩) 0 0)).run prog w= .ok (.string (iP (tl s a))) w:=by
  rw [DV s a Aaa];have h:=tJ hc 0 0 0 Aaa;rw [h];congr 2
  rw [show min (s.size - a) 1006=4 by omega];apply ByteArray.ext
  apply Array.ext'
  rw [Lib.extract_data,Lib.extract_data];simp
 have ha:a<=59996:=Aaa
 have h1:(a:Int)+4<=(a:Int)+1006:=Aaa
 have h2:¬((a:Int)+4 - (a:Int) < 4):=Aaa
 have hcap2:(a:Int)+4<=(cap:Int):=Aaa
 have hmn:min (4:Int) 1006=4:=rfl;have hmo:min ((a:Int)+4) ((a:Int)+1006)=(a:Int)+4:=Int.min_eq_left Aaa;open aoC in exact aeo
theorem Dc (hs:s.size<=60000) (a g cap:Nat) (hcap:s.size<=cap) (w:World) (h5:a+5<=s.size) (h6:s.size<=a+1006) (hc:BytesAt w g s) (_hg:g < w.heap.size) (hH:Handle w) (hz:Ak (tl s a) < 0):Calls prog 165 #[.slice (some ⟨g,0,none⟩) s.size cap,.int .i64 a] w (eO w (.tuple #[.string ByteArray.empty,.int .i64 (-1)])):=by
 open arG in exact akP
theorem Db (hs:s.size<=60000) (a g cap:Nat) (hcap:s.size<=cap) (w:World) (h5:a+5<=s.size) (h6:s.size<=a+1006) (hc:BytesAt w g s) (hg:g < w.heap.size) (hH:Handle w) (hz:0<=Ak (tl s a)) (hq:¬mE (kE (Du (tl s a)))=(tl s a).extract 0 4):Calls prog 165 #[.slice (some ⟨g,0,none⟩) s.size cap,.int .i64 a] w (eO w (.tuple #[.string ByteArray.empty,.int .i64 (-1)])):=by
 open arF in exact akP
theorem Bj (hs:s.size<=60000) (a g cap:Nat) (hcap:s.size<=cap) (w:World) (h5:a+5<=s.size) (h6:s.size<=a+1006) (hc:BytesAt w g s) (hg:g < w.heap.size) (hH:Handle w) (hz:0<=Ak (tl s a)) (hq:mE (kE (Du (tl s a)))=(tl s a).extract 0 4):Calls prog 165 #[.slice (some ⟨g,0,none⟩) s.size cap,.int .i64 a] w (eO w (.tuple #[.string (Du (tl s a)),.int .i64 (a+4+Ak (tl s a))])):=by
 open arE in exact akP
theorem Bh (hs:s.size<=60000) (a g cap:Nat) (hcap:s.size<=cap) (w:World) (h7:a+1006 < s.size) (hc:BytesAt w g s) (_hg:g < w.heap.size) (hH:Handle w) (hz:Ak (tl s a) < 0):Calls prog 165 #[.slice (some ⟨g,0,none⟩) s.size cap,.int .i64 a] w (eO w (.tuple #[.string ByteArray.empty,.int .i64 (-1)])):=by
 open arO in exact akR
theorem Bg (hs:s.size<=60000) (a g cap:Nat) (hcap:s.size<=cap) (w:World) (h7:a+1006 < s.size) (hc:BytesAt w g s) (hg:g < w.heap.size) (hH:Handle w) (hz:0<=Ak (tl s a)) (hq:¬mE (kE (Du (tl s a)))=(tl s a).extract 0 4):Calls prog 165 #[.slice (some ⟨g,0,none⟩) s.size cap,.int .i64 a] w (eO w (.tuple #[.string ByteArray.empty,.int .i64 (-1)])):=by
 open arN in exact akR
theorem zw (hs:s.size<=60000) (a g cap:Nat) (hcap:s.size<=cap) (w:World) (h7:a+1006 < s.size) (hc:BytesAt w g s) (hg:g < w.heap.size) (hH:Handle w) (hz:0<=Ak (tl s a)) (hq:mE (kE (Du (tl s a)))=(tl s a).extract 0 4):Calls prog 165 #[.slice (some ⟨g,0,none⟩) s.size cap,.int .i64 a] w (eO w (.tuple #[.string (Du (tl s a)),.int .i64 (a+4+Ak (tl s a))])):=by
 open arM in exact akR
theorem Ra (h:s.size=4):Ak s < 0:=by
 have hsz:=rZ s
 have e1:iB (iP s) 0=none:=by
  cases hG:iB (iP s) 0 with
  |none=>rfl
  |some p=>
   obtain⟨n,c⟩:=p;obtain⟨k,hk0,hk,hc,_⟩:=FB hG;omega
 unfold Ak jf;rw [e1];simp[textOf,Q9]
theorem ae1 (hs:s.size<=60000) (a:Nat) (ha:a<=s.size) (g cap:Nat) (hcap:s.size<=cap) (w:World) (hc:BytesAt w g s) (hg:g < w.heap.size) (hH:Handle w):Calls prog 165 #[.slice (some ⟨g,0,none⟩) s.size cap,.int .i64 a] w (eO w (.tuple #[.string (Gj s a),.int .i64 (Gw s a)])):=by
 have ht:=wJ s a;unfold Gj Gw;by_cases h4:4<=(tl s a).size
 case' neg=>
  have hn:¬SL s a:=λh=>h4 h.1
  rw [if_neg hn,if_neg hn];exact Gz s a g cap w hs ha Aaa
 by_cases h5:(tl s a).size=4
 case' pos=>
  have hz:=Ra (tl s a) h5;have hn:¬SL s a:=λh=>absurd h.2.1 Aaa
  rw [if_neg hn,if_neg hn];exact Bf s hs a g cap hcap w Aaa hc hg hH hz
 by_cases hz:0<=Ak (tl s a)
 case' neg=>
  have hn:¬SL s a:=λh=>hz h.2.1
  rw [if_neg hn,if_neg hn]
  by_cases h6:s.size<=a+1006
  .exact Dc s hs a g cap hcap w Aaa h6 hc hg hH Aaa
  .exact Bh s hs a g cap hcap w Aaa hc hg hH Aaa
 by_cases hq:mE (kE (Du (tl s a)))=(tl s a).extract 0 4
 case' neg=>
  have hn:¬SL s a:=λh=>hq h.2.2
  rw [if_neg hn,if_neg hn]
  by_cases h6:s.size<=a+1006
  .exact Db s hs a g cap hcap w Aaa h6 hc hg hH hz hq
  .exact Bg s hs a g cap hcap w Aaa hc hg hH hz hq
 have hy:SL s a:=⟨h4,hz,hq⟩;rw [if_pos hy,if_pos hy];by_cases h6:s.size<=a+1006
 .exact Bj s hs a g cap hcap w Aaa h6 hc hg hH hz hq
 .exact zw s hs a g cap hcap w Aaa hc hg hH hz hq
theorem ae6 (pre y:List UInt8) (n:Nat) (h:n<=4000000000):Mth.get (pre++(Mth.put n++y)) pre.length=some (n,(Mth.put n).length):=by
 have:=abM 5 n 5 0 1 0 y Aaa Aaa Aaa (.inr rfl) Aaa;unfold Mth.get;rw [List.drop_left];simpa [Mth.put] using this
theorem ade {s:ByteArray} {pre y:List UInt8} (hs:s.data.toList=pre++(Mth.put t.size++(t.data.toList++y))) (h:t.size<=1000) (i:Int) (hi:i=pre.length):jW s i=t/\jf s i=(pre.length+(og t).size:Nat):=by
 subst hi;have hg:iB s (pre.length:Int)=some (t.size,(Mth.put t.size).length):=by rw [vZ,hs];exact ae6 pre _ t.size Aaa
 have hl:=congrArg List.length hs;rw [bE] at hl;simp only[List.length_append,bE] at hl;have hps:(og t).size=(Mth.put t.size).length+t.size:=by unfold og;rw [if_pos h];unfold qU;rw [size_of_list,List.length_append,bE]
 have ht:textOf s (pre.length:Int).toNat (iB s (pre.length:Int))=some (t,pre.length+(Mth.put t.size).length+t.size):=by
  rw [hg];unfold textOf;simp only[Int.toNat_natCast];rw [if_neg Aaa];congr 2
  apply ByteArray.ext
  apply Array.ext'
  rw [Lib.extract_data,hs];have e:pre++(Mth.put t.size++(t.data.toList++y))=(pre++Mth.put t.size)++(t.data.toList++y):=Aac
  rw [e,show pre.length+(Mth.put t.size).length=(pre++Mth.put t.size).length by simp,List.drop_left];rw [show(pre++Mth.put t.size).length+t.size - (pre++Mth.put t.size).length=t.data.toList.length by rw [bE];omega,List.take_left]
 unfold jW jf;rw [ht];simp only[YZ,Q9];exact⟨trivial,Aaa⟩
theorem BL (h:t.size<=1000):(og t).data.toList=Mth.put t.size++t.data.toList:=by
 unfold og;rw [if_pos h];rfl
theorem VE (a:Nat) (h:a+4<=s.size):(Ak (tl s a) < 0/\jf s ((a:Int)+4) < 0)\/(0<=Ak (tl s a)/\jf s ((a:Int)+4)=a+4+Ak (tl s a)/\jW s ((a:Int)+4)=Du (tl s a)):=by
 have hR:(iP (tl s a)).data.toList=(s.data.toList.drop (a+4)).take (min (s.size - a) 1006 - 4):=by
  rw [DV s a h,Lib.extract_data];congr 1
  omega
 have hRs:(iP (tl s a)).size=min (s.size - a) 1006 - 4:=by rw [rZ,wJ]
 unfold Ak Du;generalize iP (tl s a)=R at *;have hl:=bE s;have hpl:(a:Int)+4=((s.data.toList.take (a+4)).length:Int):=by rw [List.length_take,hl];omega
 by_cases hz:0<=jf R 0
 .right
  obtain⟨_,_,hle,hsz,hput⟩:=iQ hz;have hq:=BL hsz
  have hzl:(og (jW R 0)).size=(jf R 0).toNat:=by
   have:=congrArg List.length hput;rw [bE,List.length_drop,List.length_take,bE] at this;have e0:(0:Int).toNat=0:=rfl;omega
  rw [hR] at hput;simp only[Int.toNat_zero,List.drop_zero] at hput;rw [List.take_take,Nat.min_eq_left Aaa] at hput
  have hs:s.data.toList=s.data.toList.take (a+4)++(Mth.put (jW R 0).size++((jW R 0).data.toList++(s.data.toList.drop (a+4)).drop (jf R 0).toNat)):=by
   rw [<-List.append_assoc (Mth.put _),<-hq,hput,List.take_append_drop,List.take_append_drop]
  obtain⟨h1,h2⟩:=ade hs hsz ((a:Int)+4) hpl;refine⟨hz,?_,h1⟩;rw [h2,hzl];omega
 .left
  refine⟨Aaa,?_⟩;rcases Int.lt_or_le (jf s ((a:Int)+4)) 0 with h0|h0
  .exact h0
  .exfalso
   obtain⟨_,g2,hle,hsz,hput⟩:=iQ h0;have hq:=BL hsz;have hp2:=ac4 (jW s ((a:Int)+4));have ea:((a:Int)+4).toNat=a+4:=Aaa
   rw [ea,List.drop_take] at hput
   have hzl:(og (jW s ((a:Int)+4))).size=(jf s ((a:Int)+4)).toNat - (a+4):=by
    have:=congrArg List.length hput;rw [bE,List.length_take,List.length_drop,bE] at this;omega
   have hs:R.data.toList=[]++(Mth.put (jW s ((a:Int)+4)).size++((jW s ((a:Int)+4)).data.toList++R.data.toList.drop ((jf s ((a:Int)+4)).toNat - (a+4)))):=by
    rw [<-List.append_assoc (Mth.put _),<-hq,hput,List.nil_append];conv=>lhs;rw [<-List.take_append_drop ((jf s ((a:Int)+4)).toNat - (a+4)) R.data.toList]
    congr 1
    rw [hR,List.take_take,Nat.min_eq_left Aaa]
   obtain⟨_,h2⟩:=ade hs hsz 0 rfl;rw [h2] at hz;omega
def Dt (s:ByteArray) (a:Nat):Bool:=decide (SL s a)&&kN (Gj s a)
theorem adq (a:Nat) (h:a+4 < s.size):Dt s a=(decide (0<=jf s ((a:Int)+4))&&kN (jW s ((a:Int)+4))&&decide (s.extract a (a+4)=mE (kE (jW s ((a:Int)+4))))):=by
 unfold Dt Gj;have hc:=Cc s a 0 4 Aaa;have hs:=wJ s a;rcases VE s a Aaa with⟨h1,h2⟩|⟨h1,h2,h3⟩
 .have hn:¬SL s a:=λh=>absurd h.2.1 Aaa
  rw [decide_eq_false hn,decide_eq_false (show¬0<=jf s ((a:Int)+4) by omega)];rfl
 .rw [decide_eq_true (show 0<=jf s ((a:Int)+4) by omega),h3];by_cases hq:mE (kE (Du (tl s a)))=s.extract a (a+4)
  .have hy:SL s a:=⟨Aaa,h1,by rw [hc];exact hq⟩;rw [decide_eq_true hy,if_pos hy,decide_eq_true hq.symm];simp
  .have hn:¬SL s a:=λh=>hq (by have:=h.2.2;rw [hc] at this;exact this)
   rw [decide_eq_false hn,decide_eq_false (λh=>hq h.symm)];simp
theorem sQ {s:ByteArray} {a:Nat} (h:Dt s a=true):a+4 < s.size/\Gj s a=jW s ((a:Int)+4)/\Gw s a=jf s ((a:Int)+4)/\(a:Int)+4 < Gw s a/\Gw s a<=s.size/\kN (Gj s a)=true/\(Gj s a).size<=1000:=by
 unfold Dt at h;simp only[Bool.and_eq_true,decide_eq_true_iff] at h;obtain⟨hf,hg⟩:=h;have hs:=wJ s a;have h4:=hf.1;have hne:(tl s a).size≠4:=λhe=>by have:=Ra _ he;have:=hf.2.1;omega
 have hT:Gj s a=Du (tl s a):=if_pos hf;have hE:Gw s a=a+4+Ak (tl s a):=if_pos hf;rcases VE s a Aaa with⟨h1,_⟩|⟨h1,h2,h3⟩
 .have:=hf.2.1;omega
 .obtain⟨_,_,k1,k2,k3⟩:=iQ (s:=s) (i:=(a:Int)+4) Aaa;have hgs:0 < (Gj s a).size:=by unfold kN at hg;simp only[Bool.and_eq_true,decide_eq_true_iff] at hg;exact hg.1.1.1
  have hpos:0 < Ak (tl s a):=by
   have hq:=BL k2;have:=congrArg List.length (k3.symm.trans hq);rw [List.length_append,List.length_drop,List.length_take,bE,bE] at this;rw [h3] at this;rw [hT] at hgs;omega
  exact⟨Aaa,by rw [hT,h3],by rw [hE,h2],Aaa,Aaa,hg,by rw [hT,<-h3];exact k2⟩
def rV (s:ByteArray):Nat->Nat->List gQ×Nat
 |0,a=>([],a)
 |f+1,a=>if Dt s a=true then(opC (Gj s a)::(rV s f (Gw s a).toNat).1,(rV s f (Gw s a).toNat).2) else([],a)
def gM (s:ByteArray):List gQ×Nat:=if s.size<=60000 then rV s (s.size+1) 0 else([],0)
def yZ (s:ByteArray) (a:Nat) (L:List gQ):Prop:=L.length<=a/\a<=s.size/\∃f,s.size < a+f/\gM s=(L++(rV s f a).1,(rV s f a).2)
theorem Cz (h:s.size<=60000):yZ s 0 []:=⟨Nat.le_refl _,Nat.zero_le _,s.size+1,Aaa,by unfold gM;rw [if_pos h];simp⟩
theorem FJ {s:ByteArray} {a:Nat} {L:List gQ} (h:yZ s a L) (hs:Dt s a=true):yZ s (Gw s a).toNat (L++[opC (Gj s a)]):=by
 obtain⟨h1,h2,f,h3,h4⟩:=h;obtain⟨p1,_,_,p2,p3,_⟩:=sQ hs;refine⟨by rw [List.length_append];simp;omega,Aaa,?_⟩;cases f with
 |zero=>omega
 |succ f=>
  refine⟨f,Aaa,?_⟩;rw [h4];simp only[rV,if_pos hs];rw [List.append_assoc];rfl
theorem BP {s:ByteArray} {a:Nat} {L:List gQ} (h:yZ s a L) (hs:Dt s a=false):gM s=(L,a):=by
 obtain⟨_,h2,f,h3,h4⟩:=h;cases f with
 |zero=>omega
 |succ f=>
  rw [h4];simp only[rV,hs,Bool.false_eq_true,if_false];rw [List.append_nil]
theorem Q6 {s:ByteArray} {a:Nat} (h:¬a+4 < s.size):Dt s a=false:=by
 cases hs:Dt s a with
 |false=>rfl
 |true=>exact absurd (sQ hs).1 h
end Go.Proofs.YtohmklmkjmlpjaaGreatDoor
