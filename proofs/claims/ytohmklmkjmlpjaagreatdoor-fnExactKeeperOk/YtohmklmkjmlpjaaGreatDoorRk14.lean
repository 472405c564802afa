/- Parts. -/
import Derived.Test.YtohmklmkjmlpjaaGreatDoorRk13
namespace Go.Proofs.YtohmklmkjmlpjaaGreatDoor
open Go.Proofs.Tryz
set_option maxHeartbeats 8000000
set_option maxRecDepth 100000
open Go.RowKit
open Mth
variable (s:ByteArray) {w:World} {g:Nat} {t:ByteArray}
theorem FD (w:World):Calls prog 103 #[.string ByteArray.empty] w (eG w (.tuple #[.agg (bV 0 0 0 0 0 ⟨#[]⟩ 0),.bool false])):=by
 go_in
 go_wp2_with fail;exact bodyPost_ret (v:= .tuple #[.agg (bV 0 0 0 0 0 ⟨#[]⟩ 0),.bool false]) (by simp[results,results103,go_sem]) rfl ⟨rfl,ay w _⟩
theorem Di (hs:s.size<=maxLen) (h0:0 < s.size) (w:World):Calls prog 103 #[.string s] w (eG w (CZ s)):=by
 have HN:=Hq (λw1=>aeI s hs w1);have HT:=Hq (λw1=>MC s (gI s 4) hs w1);have HG:=Hq (λw1=>Mw s (je s (gI s 4)) hs w1)
 have hcs:(cand s).k.size<=maxLen:=by
  show(jU s (gI s 4)).size<=maxLen
  by_cases h:0<=je s (gI s 4)
  .exact Nat.le_trans (iQ h).2.2.2.1 Aai
  .unfold je at h;unfold jU;cases hG:textOf s (gI s 4).toNat (iq s (gI s 4)) with
   |none=>simp[Yp]
   |some p=>rw [hG] at h;exact absurd (by simp[QU]) h
 have HP:=Hq (λw1=>FT (cand s) w1 hcs);have HO:=Hq (Et h0);open apF in exact awC
theorem Ud (hs:s.size<=maxLen) (w:World):Calls prog 103 #[.string s] w (eG w (CZ s)):=by
 by_cases h0:s.size=0
 .obtain rfl:=eq_empty s h0;rw [Dw (show jQ ByteArray.empty=false by unfold jQ;simp)];exact FD w
 .exact Di s hs Aaa w
def KJ (s:ByteArray):Value:= .tuple #[jG (getOp s),.bool (kE s)]
theorem Vm {s:ByteArray} (h:kE s=false):KJ s= .tuple #[.agg (bZ 0 0 ⟨#[]⟩ 0 0 0 0 0 0 ⟨#[]⟩ 0),.bool false]:=by
 unfold KJ getOp;rw [h,if_neg Aac];rfl
theorem H7 (w:World):Calls prog 54 #[.string ByteArray.empty] w (eG w (.tuple #[.agg (bZ 0 0 ⟨#[]⟩ 0 0 0 0 0 0 ⟨#[]⟩ 0),.bool false])):=by
 go_in
 go_wp2_with fail;exact bodyPost_ret (v:= .tuple #[.agg (bZ 0 0 ⟨#[]⟩ 0 0 0 0 0 0 ⟨#[]⟩ 0),.bool false]) (by simp[results,results54,go_sem]) rfl ⟨rfl,ay w _⟩
theorem FH (hs:s.size<=maxLen) (h0:0 < s.size) (w:World):Calls prog 54 #[.string s] w (eG w (KJ s)):=by
 have yM:=Hq (λw1=>Mw s 1 hs w1);have HT1:=Hq (λw1=>MC s (jS s 1) hs w1);have Kg:Hid (∀w1:World,Calls prog 102 #[.string s,.int .i64 (je s (jS s 1))] w1 (eG w1 (.tuple #[.int .i64 (uo s (je s (jS s 1))),.int .i64 (JI s)]))):=λw1=>Mw s (je s (jS s 1)) hs w1
 have HT2:Hid (∀w1:World,Calls prog 53 #[.string s,.int .i64 (JI s)] w1 (eG w1 (.tuple #[.string (Aq s),.int .i64 (LH s)]))):=λw1=>MC s (JI s) hs w1
 have hbz:(Aq s).size<=maxLen:=Nat.le_trans (rZ s (JI s)) Aai;have HG:=Hq (λw1=>Ud (Aq s) hbz w1);unfold CZ at HG;have HP:=Hq (λw1=>Yg (opC s) w1 (Nat.le_trans (rZ s (jS s 1)) Aai) (Nat.le_trans (acp (Aq s)) Aai));have HO:=Hq (WV h0);have hC:opC s=⟨s[0].toNat,uo s 1,jU s (jS s 1),uo s (je s (jS s 1)),mq (Aq s)⟩:=by unfold opC;rw [KQ h0]
 have HM:=Hq (show kE s=true->KJ s= .tuple #[jG (opC s),.bool true] from λh=>by unfold KJ getOp;rw [h,if_pos rfl]);have HZ:=Hq (show kE s=false->KJ s= .tuple #[.agg (bZ 0 0 ⟨#[]⟩ 0 0 0 0 0 0 ⟨#[]⟩ 0),.bool false] from Vm);rw [show qD s=(decide ((Aq s).size=0)||jQ (Aq s)) from rfl] at HO;rw [hC] at HP HM HO;clear hbz hC;have hne:=jY s h0;have hi0:(0:Int) < (s.size:Int):=Aaa
 generalize KJ s=RES at *;generalize kE s=OK at *;generalize mq (Aq s)=m at *;generalize jQ (Aq s)=mo at *;open asQ in exact af6
theorem Ye (hs:s.size<=maxLen) (w:World):Calls prog 54 #[.string s] w (eG w (KJ s)):=by
 by_cases h0:s.size=0
 .obtain rfl:=eq_empty s h0;rw [Vm (show kE ByteArray.empty=false by unfold kE;simp)];exact H7 w
 .exact FH s hs Aaa w
def iO (s:ByteArray):ByteArray:=s.extract 4 (min s.size 1006)
def Dl (s:ByteArray):ByteArray:=jU (iO s) 0
def Ah (s:ByteArray):Int:=je (iO s) 0
theorem rX:(iO s).size=min s.size 1006 - 4:=by
 unfold iO;rw [ByteArray.size_extract];omega
theorem aeV (n:Nat) (h:n<=1000):(Mth.put n).length<=2:=by
 unfold Mth.put;by_cases h1:n<=127
 .rw [jo _ _ h1];simp
 .rw [mP _ _ h1,jo _ _ Aaa];simp
theorem acz:(nW s).size<=1002:=by
 unfold nW;split
 .rename_i h
  unfold qM;have:=aeV s.size h;rw [size_of_list,List.length_append,bq];omega
 .decide
theorem Fq (i:Int):(jU s i).size<=1000:=by
 exact ahr
theorem TV (i:Int):je s i<=s.size:=by
 by_cases h:0<=je s i
 .exact(iQ h).2.2.1
 .omega
def BytesAt (w:World) (g:Nat) (s:ByteArray):Prop:=∀i (hi:i < s.size),w.cell? ⟨g,i,none⟩=some (.int .u8 (s[i].toNat:Int))
theorem BytesAt.below {w':World} {s:ByteArray} (h:BytesAt w g s) (hg:g < w.heap.size) (hb:aI w w'):BytesAt w' g s:=λi hi=>by rw [(BX hb).1 g i hg];exact h i hi
theorem ad3 (b off i:Nat):(⟨b,off,none⟩:Addr).add i=⟨b,off+i,none⟩:=by unfold Addr.add;split<;>simp_all
theorem tH {s:ByteArray} (h:BytesAt w g s) (lo n cap:Nat) (hn:lo+n<=s.size):(convert 162 9 (.slice (some ⟨g,lo,none⟩) n cap)).run prog w= .ok (.string (s.extract lo (lo+n))) w:=by
 have hl:(s.extract lo (lo+n)).data.toList.length=n:=by rw [bq,ByteArray.size_extract];omega
 have hc:=run_convert_bytes_back (P:=prog) w 162 9 5 ⟨g,lo,none⟩ cap (s.extract lo (lo+n)).data.toList underlying162 underlying5 underlying9 (λj hj=>by
  rw [ad3,h (lo+j) Aaa]
  congr 3
  have e:(s.extract lo (lo+n)).data.toList[j]=s.data.toList[lo+j]'(by rw [bq];omega):=by
   simp only[Lib.extract_data];rw [List.getElem_take,List.getElem_drop]
  rw [e]
  rfl)
 rw [hl] at hc;exact hc
theorem Sk (w:World):∃(cap:Nat) (w1:World),(convert 9 162 (.string s)).run prog w= .ok (.slice (some ⟨w.heap.size,0,none⟩) s.size cap) w1/\s.size<=cap/\BytesAt w1 w.heap.size s/\w.heap.size < w1.heap.size/\aI w w1:=by
 refine⟨_,_,run_bytes_of_string (P:=prog) w 9 162 5 s underlying9 underlying162 underlying5,?_,?_,?_,?_⟩
 .exact grownCap_ge w s.size 0 5
 .intro i hi;have h:=World.cell?_alloc_mark w.drew (bytesRow s (grownCap w s.size 0 5)) 5 ((bytesRow s (grownCap w s.size 0 5)).size,(bytesRow s (grownCap w s.size 0 5)).size+1) i;refine Eq.trans h ?_;rw [bytesRow_at s _ i hi];rfl
 .simp
 .exact((Below.refl _ w).drew).alloc (Nat.le_refl _) _
def tl (s:ByteArray) (a:Nat):ByteArray:=s.extract a s.size
theorem wH (a:Nat):(tl s a).size=s.size - a:=by unfold tl;rw [ByteArray.size_extract];omega
theorem BR (a i j:Nat) (h:a+j<=s.size):(tl s a).extract i j=s.extract (a+i) (a+j):=by
 apply ByteArray.ext
 apply Array.ext'
 unfold tl;rw [Lib.extract_data,Lib.extract_data,Lib.extract_data];rw [List.drop_take,List.drop_drop,List.take_take];congr 1
 omega
def Sy (s:ByteArray) (a:Nat):Prop:=4<=(tl s a).size/\0<=Ah (tl s a)/\lX (j6 (Dl (tl s a)))=(tl s a).extract 0 4
instance (s:ByteArray) (a:Nat):Decidable (Sy s a):=by unfold Sy;exact inferInstance
def Gh (s:ByteArray) (a:Nat):ByteArray:=if Sy s a then Dl (tl s a) else ByteArray.empty
def Gz (s:ByteArray) (a:Nat):Int:=if Sy s a then a+4+Ah (tl s a) else -1
theorem Dy (a:Nat) (h:a+4<=s.size):iO (tl s a)=s.extract (a+4) (a+min (s.size - a) 1006):=by
 unfold iO;rw [wH,BR _ _ _ _ Aaa]
theorem GD (a g cap:Nat) (w:World) (hs:s.size<=60000) (ha:a<=s.size) (h:s.size < a+4):Calls prog 165 #[.slice (some ⟨g,0,none⟩) s.size cap,.int .i64 a] w (eG w (.tuple #[.string ByteArray.empty,.int .i64 (-1)])):=by
 have h1:(s.size:Int)<=(a:Int)+1006:=Aaa
 have h2:(s.size:Int) - (a:Int) < 4:=Aaa
 clear h;go_in
 go_wp2_with fail;exact bodyPost_ret (v:= .tuple #[.string ⟨#[]⟩,.int .i64 (-1)]) Acl rfl ⟨rfl,Below.refl _ _⟩
theorem AY (hs:s.size<=60000) (a g cap:Nat) (hcap:s.size<=cap) (w:World) (h4:s.size=a+4) (hc:BytesAt w g s) (_hg:g < w.heap.size) (hH:Handle w) (hz:Ah (tl s a) < 0):Calls prog 165 #[.slice (some ⟨g,0,none⟩) s.size cap,.int .i64 a] w (eG w (.tuple #[.string ByteArray.empty,.int .i64 (-1)])):=by
 have hr:(convert 162 9 (.slice (some ⟨g,0,none⟩) 0 0)).run prog w= .ok (.string (iO (tl s a))) w:=by
  rw [Dy s a Aaa];have h:=tH hc 0 0 0 Aaa;rw [h];congr 2
  rw [show min (s.size - a) 1006=4 by omega];apply ByteArray.ext
  apply Array.ext'
  rw [Lib.extract_data,Lib.extract_data];simp
 have ha:a<=59996:=Aaa
 have h1:(a:Int)+4<=(a:Int)+1006:=Aaa
 have h2:¬((a:Int)+4 - (a:Int) < 4):=Aaa
 have hcap2:(a:Int)+4<=(cap:Int):=Aaa
 have hmn:min (4:Int) 1006=4:=rfl;have hmo:min ((a:Int)+4) ((a:Int)+1006)=(a:Int)+4:=Int.min_eq_left Aaa;open amH in exact adM
theorem CY (hs:s.size<=60000) (a g cap:Nat) (hcap:s.size<=cap) (w:World) (h5:a+5<=s.size) (h6:s.size<=a+1006) (hc:BytesAt w g s) (_hg:g < w.heap.size) (hH:Handle w) (hz:Ah (tl s a) < 0):Calls prog 165 #[.slice (some ⟨g,0,none⟩) s.size cap,.int .i64 a] w (eG w (.tuple #[.string ByteArray.empty,.int .i64 (-1)])):=by
 open aoZ in exact ajB
theorem CX (hs:s.size<=60000) (a g cap:Nat) (hcap:s.size<=cap) (w:World) (h5:a+5<=s.size) (h6:s.size<=a+1006) (hc:BytesAt w g s) (hg:g < w.heap.size) (hH:Handle w) (hz:0<=Ah (tl s a)) (hq:¬lX (j6 (Dl (tl s a)))=(tl s a).extract 0 4):Calls prog 165 #[.slice (some ⟨g,0,none⟩) s.size cap,.int .i64 a] w (eG w (.tuple #[.string ByteArray.empty,.int .i64 (-1)])):=by
 open aoY in exact ajB
theorem Bb (hs:s.size<=60000) (a g cap:Nat) (hcap:s.size<=cap) (w:World) (h5:a+5<=s.size) (h6:s.size<=a+1006) (hc:BytesAt w g s) (hg:g < w.heap.size) (hH:Handle w) (hz:0<=Ah (tl s a)) (hq:lX (j6 (Dl (tl s a)))=(tl s a).extract 0 4):Calls prog 165 #[.slice (some ⟨g,0,none⟩) s.size cap,.int .i64 a] w (eG w (.tuple #[.string (Dl (tl s a)),.int .i64 (a+4+Ah (tl s a))])):=by
 open aoX in exact ajB
theorem Ba (hs:s.size<=60000) (a g cap:Nat) (hcap:s.size<=cap) (w:World) (h7:a+1006 < s.size) (hc:BytesAt w g s) (_hg:g < w.heap.size) (hH:Handle w) (hz:Ah (tl s a) < 0):Calls prog 165 #[.slice (some ⟨g,0,none⟩) s.size cap,.int .i64 a] w (eG w (.tuple #[.string ByteArray.empty,.int .i64 (-1)])):=by
 open ao5 in exact ajD
theorem AZ (hs:s.size<=60000) (a g cap:Nat) (hcap:s.size<=cap) (w:World) (h7:a+1006 < s.size) (hc:BytesAt w g s) (hg:g < w.heap.size) (hH:Handle w) (hz:0<=Ah (tl s a)) (hq:¬lX (j6 (Dl (tl s a)))=(tl s a).extract 0 4):Calls prog 165 #[.slice (some ⟨g,0,none⟩) s.size cap,.int .i64 a] w (eG w (.tuple #[.string ByteArray.empty,.int .i64 (-1)])):=by
 open ao4 in exact ajD
theorem zn (hs:s.size<=60000) (a g cap:Nat) (hcap:s.size<=cap) (w:World) (h7:a+1006 < s.size) (hc:BytesAt w g s) (hg:g < w.heap.size) (hH:Handle w) (hz:0<=Ah (tl s a)) (hq:lX (j6 (Dl (tl s a)))=(tl s a).extract 0 4):Calls prog 165 #[.slice (some ⟨g,0,none⟩) s.size cap,.int .i64 a] w (eG w (.tuple #[.string (Dl (tl s a)),.int .i64 (a+4+Ah (tl s a))])):=by
 open ao3 in exact ajD
theorem QV (h:s.size=4):Ah s < 0:=by
 have hsz:=rX s
 have e1:iq (iO s) 0=none:=by
  cases hG:iq (iO s) 0 with
  |none=>rfl
  |some p=>
   obtain⟨n,c⟩:=p;obtain⟨k,hk0,hk,hc,_⟩:=Fj hG;omega
 unfold Ah je;rw [e1];simp[textOf,QU]
theorem ael (hs:s.size<=60000) (a:Nat) (ha:a<=s.size) (g cap:Nat) (hcap:s.size<=cap) (w:World) (hc:BytesAt w g s) (hg:g < w.heap.size) (hH:Handle w):Calls prog 165 #[.slice (some ⟨g,0,none⟩) s.size cap,.int .i64 a] w (eG w (.tuple #[.string (Gh s a),.int .i64 (Gz s a)])):=by
 have ht:=wH s a;unfold Gh Gz;by_cases h4:4<=(tl s a).size
 case' neg=>
  have hn:¬Sy s a:=λh=>h4 h.1
  rw [if_neg hn,if_neg hn];exact GD s a g cap w hs ha Aaa
 by_cases h5:(tl s a).size=4
 case' pos=>
  have hz:=QV (tl s a) h5;have hn:¬Sy s a:=λh=>absurd h.2.1 Aaa
  rw [if_neg hn,if_neg hn];exact AY s hs a g cap hcap w Aaa hc hg hH hz
 by_cases hz:0<=Ah (tl s a)
 case' neg=>
  have hn:¬Sy s a:=λh=>hz h.2.1
  rw [if_neg hn,if_neg hn]
  by_cases h6:s.size<=a+1006
  .exact CY s hs a g cap hcap w Aaa h6 hc hg hH Aaa
  .exact Ba s hs a g cap hcap w Aaa hc hg hH Aaa
 by_cases hq:lX (j6 (Dl (tl s a)))=(tl s a).extract 0 4
 case' neg=>
  have hn:¬Sy s a:=λh=>hq h.2.2
  rw [if_neg hn,if_neg hn]
  by_cases h6:s.size<=a+1006
  .exact CX s hs a g cap hcap w Aaa h6 hc hg hH hz hq
  .exact AZ s hs a g cap hcap w Aaa hc hg hH hz hq
 have hy:Sy s a:=⟨h4,hz,hq⟩;rw [if_pos hy,if_pos hy];by_cases h6:s.size<=a+1006
 .exact Bb s hs a g cap hcap w Aaa h6 hc hg hH hz hq
 .exact zn s hs a g cap hcap w Aaa hc hg hH hz hq
theorem aer (pre y:List UInt8) (n:Nat) (h:n<=4000000000):Mth.get (pre++(Mth.put n++y)) pre.length=some (n,(Mth.put n).length):=by
 have:=abb 5 n 5 0 1 0 y Aaa Aaa Aaa (.inr rfl) Aaa;unfold Mth.get;rw [List.drop_left];simpa [Mth.put] using this
theorem acH {s:ByteArray} {pre y:List UInt8} (hs:s.data.toList=pre++(Mth.put t.size++(t.data.toList++y))) (h:t.size<=1000) (i:Int) (hi:i=pre.length):jU s i=t/\je s i=(pre.length+(nW t).size:Nat):=by
 subst hi;have hg:iq s (pre.length:Int)=some (t.size,(Mth.put t.size).length):=by rw [vW,hs];exact aer pre _ t.size Aaa
 have hl:=congrArg List.length hs;rw [bq] at hl;simp only[List.length_append,bq] at hl;have hps:(nW t).size=(Mth.put t.size).length+t.size:=by unfold nW;rw [if_pos h];unfold qM;rw [size_of_list,List.length_append,bq]
 have ht:textOf s (pre.length:Int).toNat (iq s (pre.length:Int))=some (t,pre.length+(Mth.put t.size).length+t.size):=by
  rw [hg];unfold textOf;simp only[Int.toNat_natCast];rw [if_neg Aaa];congr 2
  apply ByteArray.ext
  apply Array.ext'
  rw [Lib.extract_data,hs];have e:pre++(Mth.put t.size++(t.data.toList++y))=(pre++Mth.put t.size)++(t.data.toList++y):=Aac
  rw [e,show pre.length+(Mth.put t.size).length=(pre++Mth.put t.size).length by simp,List.drop_left];rw [show(pre++Mth.put t.size).length+t.size - (pre++Mth.put t.size).length=t.data.toList.length by rw [bq];omega,List.take_left]
 unfold jU je;rw [ht];simp only[Yp,QU];exact⟨trivial,Aaa⟩
theorem BG (h:t.size<=1000):(nW t).data.toList=Mth.put t.size++t.data.toList:=by
 unfold nW;rw [if_pos h];rfl
theorem Vk (a:Nat) (h:a+4<=s.size):(Ah (tl s a) < 0/\je s ((a:Int)+4) < 0)\/(0<=Ah (tl s a)/\je s ((a:Int)+4)=a+4+Ah (tl s a)/\jU s ((a:Int)+4)=Dl (tl s a)):=by
 have hR:(iO (tl s a)).data.toList=(s.data.toList.drop (a+4)).take (min (s.size - a) 1006 - 4):=by
  rw [Dy s a h,Lib.extract_data];congr 1
  omega
 have hRs:(iO (tl s a)).size=min (s.size - a) 1006 - 4:=by rw [rX,wH]
 unfold Ah Dl;generalize iO (tl s a)=R at *;have hl:=bq s;have hpl:(a:Int)+4=((s.data.toList.take (a+4)).length:Int):=by rw [List.length_take,hl];omega
 by_cases hz:0<=je R 0
 .right
  obtain⟨_,_,hle,hsz,hput⟩:=iQ hz;have hq:=BG hsz
  have hzl:(nW (jU R 0)).size=(je R 0).toNat:=by
   have:=congrArg List.length hput;rw [bq,List.length_drop,List.length_take,bq] at this;have e0:(0:Int).toNat=0:=rfl;omega
  rw [hR] at hput;simp only[Int.toNat_zero,List.drop_zero] at hput;rw [List.take_take,Nat.min_eq_left Aaa] at hput
  have hs:s.data.toList=s.data.toList.take (a+4)++(Mth.put (jU R 0).size++((jU R 0).data.toList++(s.data.toList.drop (a+4)).drop (je R 0).toNat)):=by
   rw [<-List.append_assoc (Mth.put _),<-hq,hput,List.take_append_drop,List.take_append_drop]
  obtain⟨h1,h2⟩:=acH hs hsz ((a:Int)+4) hpl;refine⟨hz,?_,h1⟩;rw [h2,hzl];omega
 .left
  refine⟨Aaa,?_⟩;rcases Int.lt_or_le (je s ((a:Int)+4)) 0 with h0|h0
  .exact h0
  .exfalso
   obtain⟨_,g2,hle,hsz,hput⟩:=iQ h0;have hq:=BG hsz;have hp2:=acz (jU s ((a:Int)+4));have ea:((a:Int)+4).toNat=a+4:=Aaa
   rw [ea,List.drop_take] at hput
   have hzl:(nW (jU s ((a:Int)+4))).size=(je s ((a:Int)+4)).toNat - (a+4):=by
    have:=congrArg List.length hput;rw [bq,List.length_take,List.length_drop,bq] at this;omega
   have hs:R.data.toList=[]++(Mth.put (jU s ((a:Int)+4)).size++((jU s ((a:Int)+4)).data.toList++R.data.toList.drop ((je s ((a:Int)+4)).toNat - (a+4)))):=by
    rw [<-List.append_assoc (Mth.put _),<-hq,hput,List.nil_append];conv=>lhs;rw [<-List.take_append_drop ((je s ((a:Int)+4)).toNat - (a+4)) R.data.toList]
    congr 1
    rw [hR,List.take_take,Nat.min_eq_left Aaa]
   obtain⟨_,h2⟩:=acH hs hsz 0 rfl;rw [h2] at hz;omega
def Dk (s:ByteArray) (a:Nat):Bool:=decide (Sy s a)&&kE (Gh s a)
theorem acT (a:Nat) (h:a+4 < s.size):Dk s a=(decide (0<=je s ((a:Int)+4))&&kE (jU s ((a:Int)+4))&&decide (s.extract a (a+4)=lX (j6 (jU s ((a:Int)+4))))):=by
 unfold Dk Gh;have hc:=BR s a 0 4 Aaa;have hs:=wH s a;rcases Vk s a Aaa with⟨h1,h2⟩|⟨h1,h2,h3⟩
 .have hn:¬Sy s a:=λh=>absurd h.2.1 Aaa
  rw [decide_eq_false hn,decide_eq_false (show¬0<=je s ((a:Int)+4) by omega)];rfl
 .rw [decide_eq_true (show 0<=je s ((a:Int)+4) by omega),h3];by_cases hq:lX (j6 (Dl (tl s a)))=s.extract a (a+4)
  .have hy:Sy s a:=⟨Aaa,h1,by rw [hc];exact hq⟩;rw [decide_eq_true hy,if_pos hy,decide_eq_true hq.symm];simp
  .have hn:¬Sy s a:=λh=>hq (by have:=h.2.2;rw [hc] at this;exact this)
   rw [decide_eq_false hn,decide_eq_false (λh=>hq h.symm)];simp
theorem sJ {s:ByteArray} {a:Nat} (h:Dk s a=true):a+4 < s.size/\Gh s a=jU s ((a:Int)+4)/\Gz s a=je s ((a:Int)+4)/\(a:Int)+4 < Gz s a/\Gz s a<=s.size/\kE (Gh s a)=true/\(Gh s a).size<=1000:=by
 unfold Dk at h;simp only[Bool.and_eq_true,decide_eq_true_iff] at h;obtain⟨hf,hg⟩:=h;have hs:=wH s a;have h4:=hf.1;have hne:(tl s a).size≠4:=λhe=>by have:=QV _ he;have:=hf.2.1;omega
 have hT:Gh s a=Dl (tl s a):=if_pos hf;have hE:Gz s a=a+4+Ah (tl s a):=if_pos hf;rcases Vk s a Aaa with⟨h1,_⟩|⟨h1,h2,h3⟩
 .have:=hf.2.1;omega
 .obtain⟨_,_,k1,k2,k3⟩:=iQ (s:=s) (i:=(a:Int)+4) Aaa;have hgs:0 < (Gh s a).size:=by unfold kE at hg;simp only[Bool.and_eq_true,decide_eq_true_iff] at hg;exact hg.1.1.1
  have hpos:0 < Ah (tl s a):=by
   have hq:=BG k2;have:=congrArg List.length (k3.symm.trans hq);rw [List.length_append,List.length_drop,List.length_take,bq,bq] at this;rw [h3] at this;rw [hT] at hgs;omega
  exact⟨Aaa,by rw [hT,h3],by rw [hE,h2],Aaa,Aaa,hg,by rw [hT,<-h3];exact k2⟩
def rT (s:ByteArray):Nat->Nat->List gK×Nat
 |0,a=>([],a)
 |f+1,a=>if Dk s a=true then(opC (Gh s a)::(rT s f (Gz s a).toNat).1,(rT s f (Gz s a).toNat).2) else([],a)
def gH (s:ByteArray):List gK×Nat:=if s.size<=60000 then rT s (s.size+1) 0 else([],0)
def yU (s:ByteArray) (a:Nat) (L:List gK):Prop:=L.length<=a/\a<=s.size/\∃f,s.size < a+f/\gH s=(L++(rT s f a).1,(rT s f a).2)
theorem Co (h:s.size<=60000):yU s 0 []:=⟨Nat.le_refl _,Nat.zero_le _,s.size+1,Aaa,by unfold gH;rw [if_pos h];simp⟩
theorem FB {s:ByteArray} {a:Nat} {L:List gK} (h:yU s a L) (hs:Dk s a=true):yU s (Gz s a).toNat (L++[opC (Gh s a)]):=by
 obtain⟨h1,h2,f,h3,h4⟩:=h;obtain⟨p1,_,_,p2,p3,_⟩:=sJ hs;refine⟨by rw [List.length_append];simp;omega,Aaa,?_⟩;cases f with
 |zero=>omega
 |succ f=>
  refine⟨f,Aaa,?_⟩;rw [h4];simp only[rT,if_pos hs];rw [List.append_assoc];rfl
theorem BJ {s:ByteArray} {a:Nat} {L:List gK} (h:yU s a L) (hs:Dk s a=false):gH s=(L,a):=by
 obtain⟨_,h2,f,h3,h4⟩:=h;cases f with
 |zero=>omega
 |succ f=>
  rw [h4];simp only[rT,hs,Bool.false_eq_true,if_false];rw [List.append_nil]
theorem QO {s:ByteArray} {a:Nat} (h:¬a+4 < s.size):Dk s a=false:=by
 cases hs:Dk s a with
 |false=>rfl
 |true=>exact absurd (sJ hs).1 h
end Go.Proofs.YtohmklmkjmlpjaaGreatDoor
