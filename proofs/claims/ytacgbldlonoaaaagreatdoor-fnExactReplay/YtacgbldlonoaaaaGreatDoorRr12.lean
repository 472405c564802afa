/- Parts. -/
import Derived.Test.YtacgbldlonoaaaaGreatDoorRr10
import Derived.Test.YtacgbldlonoaaaaGreatDoorRr5
import Derived.Test.YtacgbldlonoaaaaGreatDoorRr11
namespace Go.Proofs.YtacgbldlonoaaaaGreatDoor
set_option maxHeartbeats 4000000
set_option maxRecDepth 100000
open Go.RowKit
def gU (s:ByteArray) (i:Int):Option (Nat×Nat):=if i < 0 then none else Mth.get s.data.toList i.toNat
theorem zM (s:ByteArray) (i:Int) (h:i < 0):gU s i=none:=by simp[gU,h]
theorem uV (s:ByteArray) (n:Nat):gU s n=Mth.get s.data.toList n:=by
 unfold gU;rw [if_neg Aaa];rfl
theorem Zc (s:ByteArray) (i:Int) (w:World) (hs:s.size<=maxLen):Calls Tryz.prog 241 #[.string s,.int .i64 i] w λe w'=>e= .returned (qz (gU s i) i)/\w=w':=by
 by_cases h:i < 0
 .rw [zM s i h];exact Ur s i w h
 .obtain⟨n,rfl⟩:=Int.eq_ofNat_of_zero_le (show 0<=i by omega);rw [uV];exact numAt s n w hs
theorem AV (s:ByteArray) (i:Int) (w:World) (hs:s.size<=maxLen):Calls Tryz.prog 181 #[.string s,.int .i64 i] w (eP w (qx (gU s i) i)):=by
 by_cases h:i < 0
 .rw [zM s i h];exact(Eb s i w h).mono λe w' ⟨he,hw⟩=>⟨he,hw▸Below.refl _ _⟩
 .obtain⟨n,rfl⟩:=Int.eq_ofNat_of_zero_le (show 0<=i by omega);rw [uV];exact QD s n w hs
theorem Mv (s:ByteArray) (i:Int) (w:World) (hs:s.size<=maxLen) (hH:Handle w):Calls Tryz.prog 244 #[.string s,.int .i64 i] w (eP w (qx (gU s i) i)):=by
 have HN:=Hq (λw1=>Zc s i w1 hs);have HH:=Hq hH;clear hH;cases hG:gU s i with
 |none=>
  rw [hG] at HN
  go_enter Tryz.func244,Tryz.ntmps244
  go_wp2_with (first|(go_at_call 241;refine(HN _).mono ?_;rintro e w' ⟨rfl,rfl⟩;simp only[qz])|(go_at_call 217;refine(M8 _ _ HH).mono ?_;rintro e w' ⟨rfl,hbel⟩))
  go_ret2
  exact⟨rfl,hbel⟩
 |some p=>
  obtain⟨n,c⟩:=p
  rw [hG] at HN
  go_enter Tryz.func244,Tryz.ntmps244
  go_wp2_with (first|(go_at_call 241;refine(HN _).mono ?_;rintro e w' ⟨rfl,rfl⟩;simp only[qz])|(go_at_call 217;refine(M7 _).mono ?_;rintro e w' ⟨rfl,hbel⟩))
  go_ret2
  exact⟨rfl,hbel⟩
def Cn (o:Option (ByteArray×Nat)):Value:=
 match o with
 |none=> .tuple #[.string ByteArray.empty,.int .i64 (-1)]
 |some (t,b)=> .tuple #[.string t,.int .i64 b]
def textOf (s:ByteArray) (i:Nat) (o:Option (Nat×Nat)):Option (ByteArray×Nat):=
 match o with
 |none=>none
 |some (n,c)=>if 1000 < n\/s.size - (i+c) < n then none else some (s.extract (i+c) (i+c+n),i+c+n)
theorem rP {s:ByteArray} {i:Int} {n c:Nat} (h:gU s i=some (n,c)):∃k:Nat,i=k/\Mth.get s.data.toList k=some (n,c)/\n<=4000000000/\k+c<=s.size:=by
 by_cases h0:i < 0
 .rw [zM s i h0] at h;cases h
 .obtain⟨k,rfl⟩:=Int.eq_ofNat_of_zero_le (show 0<=i by omega);have h':gU s (k:Int)=some (n,c):=h;rw [uV] at h';have hb:=Mth.get_bound _ _ _ _ h';rw [bn] at hb;exact⟨k,rfl,h',hb.1,hb.2.2.2⟩
theorem Oj (s:ByteArray) (i:Int) (w:World) (hs:s.size<=maxLen):Calls Tryz.prog 139 #[.string s,.int .i64 i] w (eP w (Cn (textOf s i.toNat (gU s i)))):=by
 have HS:=Hq (λw1=>AV s i w1 hs);unfold maxLen at hs;cases hG:gU s i with
 |none=>
  rw [hG] at HS
  go_enter Tryz.func139,Tryz.ntmps139
  go_wp2_with (go_at_call 181;refine(HS _).mono ?_;rintro e w1 ⟨rfl,hb1⟩;simp only[qx])
  go_ret2
  exact⟨rfl,hb1⟩
 |some p=>
  obtain⟨n,c⟩:=p
  obtain⟨k,rfl,_,hn,hk⟩:=rP hG
  rw [hG] at HS
  by_cases hbad:1000 < n\/s.size - (k+c) < n
  .have HR:Hid (textOf s k (some (n,c))=none):=by unfold textOf;exact if_pos hbad
   rw [Int.toNat_natCast];by_cases h1:1000 < n
   .exact asS
   .have h2:(s.size:Int) - ((k:Int)+(c:Int)) < (n:Int):=Aaa
    exact asS
  .open aow in exact acW
def Kl (o:Option (Nat×Nat)) (i:Int):Value:=
 match o with
 |none=> .iface 279 (.agg #[.iface 279 (.agg #[.iface 281 (.agg #[.int .i64 i])])])
 |some _=> .iface 279 (.agg #[.iface 281 (.agg #[.int .i64 i])])
def rC (t:Option (ByteArray×Nat)) (o:Option (Nat×Nat)) (i:Int):Value:=
 match t with
 |none=> .tuple #[.string ByteArray.empty,.int .i64 0,Kl o i]
 |some (x,b)=> .tuple #[.string x,.int .i64 b,.nilIface]
theorem textAt (s:ByteArray) (i:Int) (w:World) (hs:s.size<=maxLen):Calls Tryz.prog 216 #[.string s,.int .i64 i] w (eP w (rC (textOf s i.toNat (gU s i)) (gU s i) i)):=by
 have HS:=Hq (λw1=>Zc s i w1 hs);unfold maxLen at hs;cases hG:gU s i with
 |none=>
  rw [hG] at HS
  go_enter Tryz.func216,Tryz.ntmps216
  go_wp2_with (go_at_call 241;refine(HS _).mono ?_;rintro e w1 ⟨rfl,rfl⟩;simp only[qz])
  go_ret3
  exact⟨rfl,Below.refl _ _⟩
 |some p=>
  obtain⟨n,c⟩:=p
  obtain⟨k,rfl,_,hn,hk⟩:=rP hG
  rw [hG] at HS
  by_cases hbad:1000 < n\/s.size - (k+c) < n
  .have HR:Hid (textOf s k (some (n,c))=none):=by unfold textOf;exact if_pos hbad
   rw [Int.toNat_natCast];by_cases h1:1000 < n
   .exact asI
   .have h2:(s.size:Int) - ((k:Int)+(c:Int)) < (n:Int):=Aaa
    exact asI
  .open aox in exact acW
theorem Mw (s:ByteArray) (i:Int) (w:World) (hs:s.size<=maxLen) (hH:Handle w):Calls Tryz.prog 183 #[.string s,.int .i64 i] w (eP w (Cn (textOf s i.toNat (gU s i)))):=by
 have HN:=Hq (λw1=>textAt s i w1 hs);have HH:=Hq hH;clear hH;cases hT:textOf s i.toNat (gU s i) with
 |none=>
  rw [hT] at HN
  cases hG:gU s i with
  |none=>
   rw [hG] at HN
   go_enter Tryz.func183,Tryz.ntmps183
   go_wp2_with (first|(go_at_call 216;refine(HN _).mono ?_;rintro e w1 ⟨rfl,hb1⟩;simp only[rC,Kl])|(go_at_call 217;refine(YJ _ _ (HH.below hb1)).mono ?_;rintro e w2 ⟨rfl,hb2⟩))
   go_ret2
   exact⟨rfl,hb1.trans (hb2.mono hb1.size)⟩
  |some p=>
   rw [hG] at HN
   go_enter Tryz.func183,Tryz.ntmps183
   go_wp2_with (first|(go_at_call 216;refine(HN _).mono ?_;rintro e w1 ⟨rfl,hb1⟩;simp only[rC,Kl])|(go_at_call 217;refine(M8 _ _ (HH.below hb1)).mono ?_;rintro e w2 ⟨rfl,hb2⟩))
   go_ret2
   exact⟨rfl,hb1.trans (hb2.mono hb1.size)⟩
 |some p=>
  obtain⟨x,b⟩:=p
  rw [hT] at HN
  go_enter Tryz.func183,Tryz.ntmps183
  go_wp2_with (first|(go_at_call 216;refine(HN _).mono ?_;rintro e w1 ⟨rfl,hb1⟩;simp only[rC])|(go_at_call 217;refine(M7 _).mono ?_;rintro e w2 ⟨rfl,hb2⟩))
  go_ret2
  exact⟨rfl,hb1.trans (hb2.mono hb1.size)⟩
def agp (o:Option (Nat×Nat)):Int:=match o with|none=>0|some (n,_)=>n
def abm (o:Option (Nat×Nat)) (i:Int):Int:=match o with|none=> -1|some (_,c)=>i+c
theorem Dh (o:Option (Nat×Nat)) (i:Int):qx o i= .tuple #[.int .i64 (agp o),.int .i64 (abm o i)]:=by cases o<;>rfl
def Vb (o:Option (ByteArray×Nat)):ByteArray:=match o with|none=>ByteArray.empty|some (t,_)=>t
def OH (o:Option (ByteArray×Nat)):Int:=match o with|none=> -1|some (_,b)=>b
theorem AX (o:Option (ByteArray×Nat)):Cn o= .tuple #[.string (Vb o),.int .i64 (OH o)]:=by cases o<;>rfl
theorem DW {s:ByteArray} {i:Int} {n c:Nat} (h:gU s i=some (n,c)):∃k:Nat,i=k/\k+c<=s.size/\0 < c/\n<=4000000000/\(lH n).toList=(s.extract k (k+c)).toList:=by
 obtain⟨k,rfl,hg,hn,hk⟩:=rP h;have hb:=Mth.get_bound _ _ _ _ hg;refine⟨k,rfl,hk,hb.2.1,hn,?_⟩;unfold lH;rw [if_pos Aaa,Int.toNat_natCast,ByteArray.toList_mk,Lib.extract_toList,Mth.get_was_put _ _ _ _ hg];congr 1;omega
theorem UD {s:ByteArray} {i:Int} {t:ByteArray} {e:Nat} (h:textOf s i.toNat (gU s i)=some (t,e)):∃k:Nat,i=k/\k < e/\e<=s.size/\t.size<=1000/\(nJ t).toList=(s.extract k e).toList:=by
 cases hG:gU s i with
 |none=>rw [hG] at h;simp[textOf] at h
 |some p=>
  obtain⟨n,c⟩:=p
  obtain⟨k,rfl,hk,hc,hn,hput⟩:=DW hG
  rw [hG,Int.toNat_natCast] at h
  unfold textOf at h
  simp only at h
  split at h
  .cases h
  .rename_i hbad
   simp only[Option.some.injEq,Prod.mk.injEq] at h;obtain⟨rfl,rfl⟩:=h;have hsz:(s.extract (k+c) (k+c+n)).size=n:=by rw [ByteArray.size_extract];omega
   refine⟨k,rfl,Aaa,Aaa,Aaa,?_⟩;unfold nJ;rw [if_pos Aaa];unfold qg;rw [ByteArray.toList_mk,hsz]
   have e1:Mth.put n=(s.extract k (k+c)).toList:=by
    rw [<-hput];unfold lH;rw [if_pos Aaa,Int.toNat_natCast,ByteArray.toList_mk]
   rw [e1,Lib.extract_toList,Lib.extract_data,Lib.extract_toList];have h1:k+c - k=c:=Aaa
   have h2:k+c+n - (k+c)=n:=Aaa
   have h3:k+c+n - k=c+n:=Aaa
   rw [h1,h2,h3,<-List.drop_drop,List.take_add]
open Mth
def sH (s:ByteArray) (i:Int):Int:=agp (gU s i)
def jK (s:ByteArray) (i:Int):Int:=abm (gU s i) i
def jc (s:ByteArray) (i:Int):ByteArray:=Vb (textOf s i.toNat (gU s i))
def iO (s:ByteArray) (i:Int):Int:=OH (textOf s i.toNat (gU s i))
theorem kN {s:ByteArray} {i:Int} (h:0<=jK s i):0<=i/\i<=jK s i/\jK s i<=s.size/\(lH (sH s i)).data.toList=(s.data.toList.take (jK s i).toNat).drop i.toNat:=by
 unfold jK sH at *;cases hG:gU s i with
 |none=>rw [hG] at h;simp[abm] at h
 |some p=>
  obtain⟨n,c⟩:=p
  obtain⟨k,rfl,hk,hc,hn,hput⟩:=DW hG
  simp only[abm,agp]
  refine⟨Aaa,Aaa,Aaa,?_⟩
  rw [<-ByteArray.toList_eq,hput,Lib.extract_toList,List.drop_take]
  simp only[Int.toNat_natCast]
  rfl
theorem iE {s:ByteArray} {i:Int} (h:0<=iO s i):0<=i/\i<=iO s i/\iO s i<=s.size/\(jc s i).size<=1000/\(nJ (jc s i)).data.toList=(s.data.toList.take (iO s i).toNat).drop i.toNat:=by
 unfold iO jc at *;cases hG:textOf s i.toNat (gU s i) with
 |none=>rw [hG] at h;simp[OH] at h
 |some p=>
  obtain⟨t,e⟩:=p
  obtain⟨k,rfl,hk,hc,hn,hput⟩:=UD hG
  simp only[OH,Vb]
  refine⟨Aaa,Aaa,Aaa,hn,?_⟩
  rw [<-ByteArray.toList_eq,hput,Lib.extract_toList,List.drop_take]
  simp only[Int.toNat_natCast]
def vT (s:ByteArray):Int:=jK s (iO s (jK s (jK s (jK s (jK s 1)))))
def cand (s:ByteArray):Mg:=
 ⟨(s.data.toList.headD 0).toNat,sH s 1,sH s (jK s 1),sH s (jK s (jK s 1)),sH s (jK s (jK s (jK s 1))),jc s (jK s (jK s (jK s (jK s 1)))),sH s (iO s (jK s (jK s (jK s (jK s 1)))))⟩
theorem mO (l:List UInt8) (i j:Nat) (h:i<=j):l.take i++(l.take j).drop i=l.take j:=by
 have h2:(l.take j).take i=l.take i:=by rw [List.take_take,Nat.min_eq_left h]
 rw [<-h2,List.take_append_drop]
theorem CW {s:ByteArray} (hs:0 < s.size) (h:0<=vT s):vT s<=s.size/\(yC (cand s)).data.toList=s.data.toList.take (vT s).toNat:=by
 unfold vT at h;obtain⟨g5,l6,e6,q6⟩:=kN h;obtain⟨g4,l5,e5,_,q5⟩:=iE g5;obtain⟨g3,l4,e4,q4⟩:=kN g4;obtain⟨g2,l3,e3,q3⟩:=kN g3;obtain⟨g1,l2,e2,q2⟩:=kN g2;obtain⟨g0,l1,e1,q1⟩:=kN g1;refine⟨e6,?_⟩;unfold yC cand vT;simp only[ByteArray.data_append,Array.toList_append];rw [q1,q2,q3,q4,q5,q6]
 have q0:(kb ((s.data.toList.headD 0).toNat:Int)).data.toList=s.data.toList.take (1:Int).toNat:=by
  exact aea
 rw [q0,mO _ _ _ Aaa,mO _ _ _ Aaa,mO _ _ _ Aaa,mO _ _ _ Aaa,mO _ _ _ Aaa,mO _ _ _ Aaa]
def mg0:Mg:=⟨0,0,0,0,0,ByteArray.empty,0⟩
def jH (s:ByteArray):Bool:=decide (0 < s.size)&&decide (vT s=s.size)&&bX (cand s)
def lW (s:ByteArray):Mg:=if jH s=true then cand s else mg0
theorem Dg {s:ByteArray} (hs:0 < s.size):jH s=(decide (0<=vT s)&&decide (jq (cand s)=s)):=by
 rw [Bool.eq_iff_iff];unfold jH;simp only[Bool.and_eq_true,decide_eq_true_iff];constructor
 .rintro⟨⟨_,h1⟩,h2⟩;have h0:0<=vT s:=Aaa
  refine⟨h0,?_⟩;rw [wQ h2];apply ByteArray.ext
  apply Array.ext'
  rw [(CW hs h0).2,h1,Int.toNat_natCast,List.take_of_length_le (by rw [bn];exact Nat.le_refl _)]
 .rintro⟨h0,h1⟩;obtain⟨hl,hb⟩:=CW hs h0;cases hm:bX (cand s) with
  |false=>
   rw [zZ hm] at h1
   rw [<-h1] at hs
   exact absurd hs Aae
  |true=>
   rw [wQ hm] at h1
   refine⟨⟨hs,?_⟩,rfl⟩
   rw [h1] at hb
   have:=congrArg List.length hb
   rw [List.length_take,bn] at this
   omega
def Hy (s:ByteArray):Int:=jK s (iO s (jK s 1))
def zh (s:ByteArray):ByteArray:=jc s (Hy s)
def JD (s:ByteArray):Int:=iO s (Hy s)
def opC (s:ByteArray):gM:=⟨(s.data.toList.headD 0).toNat,sH s 1,jc s (jK s 1),sH s (iO s (jK s 1)),lW (zh s)⟩
def pW (s:ByteArray):Bool:=decide ((zh s).size=0)||jH (zh s)
theorem abk:bX mg0=false:=Aae
theorem Io {s:ByteArray} (h:s.size=0):s=ByteArray.empty:=eq_empty s h
theorem GQ {b:ByteArray} (h:b.size=0):lW b=mg0/\jH b=false:=by
 have ho:jH b=false:=by unfold jH;rw [decide_eq_false Aaa];rfl
 refine⟨?_,ho⟩;unfold lW;rw [ho,if_neg Aac]
theorem Tt {s:ByteArray} (h:pW s=true):jq (lW (zh s))=zh s:=by
 by_cases h0:(zh s).size=0
 .rw [(GQ h0).1,zZ abk,Io h0]
 .unfold pW at h;rw [decide_eq_false h0,Bool.false_or] at h;have h2:=Dg (s:=zh s) Aaa;rw [h] at h2;unfold lW;rw [if_pos h];have h3:=h2.symm;simp only[Bool.and_eq_true,decide_eq_true_iff] at h3;exact h3.2
theorem Ht {s:ByteArray} (hs:0 < s.size) (h:0<=JD s) (hb:pW s=true):JD s<=s.size/\(yG (opC s)).data.toList=s.data.toList.take (JD s).toNat:=by
 have hq:=Tt hb;unfold JD zh at *;obtain⟨g3,l4,e4,_,q4⟩:=iE h;unfold Hy at g3 l4 e4 q4 hq h ⊢;obtain⟨g2,l3,e3,q3⟩:=kN g3;obtain⟨g1,l2,e2,_,q2⟩:=iE g2;obtain⟨g0,l1,e1,q1⟩:=kN g1;refine⟨e4,?_⟩;unfold yG opC zh Hy;simp only[ByteArray.data_append,Array.toList_append];rw [hq,q1,q2,q3,q4]
 have q0:(kb ((s.data.toList.headD 0).toNat:Int)).data.toList=s.data.toList.take (1:Int).toNat:=by
  exact aea
 rw [q0,mO _ _ _ Aaa,mO _ _ _ Aaa,mO _ _ _ Aaa,mO _ _ _ Aaa]
def op0:gM:=⟨0,0,ByteArray.empty,0,mg0⟩
def j6 (s:ByteArray):Bool:=decide (0 < s.size)&&decide (JD s=s.size)&&pW s&&bV (opC s)
def getOp (s:ByteArray):gM:=if j6 s=true then opC s else op0
theorem TH {s:ByteArray} (hs:0 < s.size):j6 s=(decide (0<=JD s)&&pW s&&decide (uI (opC s)=s)):=by
 rw [Bool.eq_iff_iff];unfold j6;simp only[Bool.and_eq_true,decide_eq_true_iff];constructor
 .rintro⟨⟨⟨_,h1⟩,hb⟩,h2⟩;have h0:0<=JD s:=Aaa
  refine⟨⟨h0,hb⟩,?_⟩;rw [Ab h2];apply ByteArray.ext
  apply Array.ext'
  rw [(Ht hs h0 hb).2,h1,Int.toNat_natCast,List.take_of_length_le (by rw [bn];exact Nat.le_refl _)]
 .rintro⟨⟨h0,hb⟩,h1⟩;obtain⟨hl,hq⟩:=Ht hs h0 hb;cases hm:bV (opC s) with
  |false=>
   rw [Nv hm] at h1
   rw [<-h1] at hs
   exact absurd hs Aae
  |true=>
   rw [Ab hm] at h1
   refine⟨⟨⟨hs,?_⟩,hb⟩,rfl⟩
   rw [h1] at hq
   have:=congrArg List.length hq
   rw [List.length_take,bn] at this
   omega
theorem qY (s:ByteArray) (i:Int):(jc s i).size<=1000:=by
 exact as0
theorem Ze (s:ByteArray):(lW s).k.size<=1000:=by
 unfold lW;split
 .exact qY _ _
 .decide
def gI (s:ByteArray):Nat->Int
 |0=>1
 |j+1=>jK s (gI s j)
def numsL (s:ByteArray) (j:Nat):List Value:=(List.range j).map λi=> .int .i64 (sH s (gI s i))
theorem Qr (s:ByteArray) (j:Nat):numsL s (j+1)=numsL s j++[.int .i64 (sH s (gI s j))]:=by unfold numsL;rw [List.range_succ,List.map_append];rfl
theorem YC:(Tryz.prog.info? 3).map (λi=>(i.zero,i.size,i.bytes))=some (some (.int .i64 0),1,8):=Aab
theorem own_below {w w':World} {base size n:Nat} {e:TypeId} {v:Value} {xs:List Value} (h:w.ownsRow base e size v n xs) (hb:aX w w'):w'.ownsRow base e size v n xs:=by
 refine h.kept (row:=none) ⟨hb.os,hb.tape,hb.output,hb.size,λk hk _=>hb.block k hk⟩ ?_;cases hv:v.ownBlock with
 |none=>exact .inl rfl
 |some k=>right;simp
theorem J8 (s:ByteArray) (i:Int) (hs:s.size<=maxLen) (w:World):Calls Tryz.prog 181 #[.string s,.int .i64 i] w (eP w (.tuple #[.int .i64 (sH s i),.int .i64 (jK s i)])):=by
 have h:=AV s i w hs;rw [Dh] at h;exact h
theorem Ke (s:ByteArray) (i:Int) (hs:s.size<=maxLen) (w:World):Calls Tryz.prog 139 #[.string s,.int .i64 i] w (eP w (.tuple #[.string (jc s i),.int .i64 (iO s i)])):=by
 have h:=Oj s i w hs;rw [AX] at h;exact h
theorem l04Nums (s:ByteArray) (hs:s.size<=maxLen) (w:World):Calls Tryz.prog 215 #[.string s,.int .i64 1,.int .i64 4] w λe w'=>
 ∃g cap,e= .returned (.tuple #[.slice (some ⟨g,0,none⟩) 4 cap,.int .i64 (gI s 4)])/\g < w'.heap.size/\(w'.cell? ⟨g,0,none⟩=some (.int .i64 (sH s (gI s 0)))/\w'.cell? ⟨g,1,none⟩=some (.int .i64 (sH s (gI s 1)))/\w'.cell? ⟨g,2,none⟩=some (.int .i64 (sH s (gI s 2)))/\w'.cell? ⟨g,3,none⟩=some (.int .i64 (sH s (gI s 3))))/\aX w w':=by
 obtain⟨i0,hi,hz0,hz1,hz2⟩:=info_parts YC;have HG:=Hq (λi w1=>J8 s i hs w1);clear hs;go_enter Tryz.func215,Tryz.ntmps215
 go_wp2_with fail;go_loopw [8,9,10] (λv a k wr=>∃j,j<=4/\k= .int .i64 (j:Nat)/\a= .int .i64 (gI s j)/\wr.ownsRow w.heap.size 3 1 v j (numsL s j)/\aX w wr) (λ_ _ k _=>4 - (intOf k).toNat)
 case atStart=>exact⟨0,Aaa,rfl,rfl,World.ownsRow_lit _ #[] 0 (Nat.le_refl _) Aae rfl,(Below.refl _ _).alloc (Nat.le_refl _) _⟩
 case round=>
  obtain⟨j,hj,rfl,rfl,hown,hbel⟩:=hrel;by_cases hlt:j < 4
  .have HN:=Hq (Qr s j);have HP:=Hq (show gI s (j+1)=jK s (gI s j) from rfl);have hg:=λw1=>HG (gI s j) w1
   generalize sH s (gI s j)=x at *;generalize jK s (gI s j)=a' at *;generalize gI s j=a at *;have Bh:=Hq hg;clear hg;go_wp2_with fail;refine(Bh _).mono ?_;rintro e w5 ⟨rfl,hb5⟩;have hown5:=own_below hown hb5;have Ya:=hbel.trans (hb5.mono hbel.size);clear hb5 hown hbel;go_wp2_with (at_builtin;refine wpList_append_own _ rfl _ _ 24 rfl w.heap.size 3 i0 (.int .i64 0) 1 8 Tryz.underlying24 hi hz0 hz1 hz2 rfl Aae _ _ _ rfl (hown5.alloc _) ⟨w5.heap.size,0,none⟩ 1 1 [.int .i64 x] rfl rfl ?c1 ?c2 ?c3 ?c4 ?c5 ?_)
   case c1=>exact cell_one_new _ _ _
   case c2=>intro u hu;simp at hu;subst hu;rfl
   case c3=>unfold maxLen;omega
   case c4=>omega
   case c5=>have:=Ya.size;simp;omega
   intro v' w6 hown' hgrow _;have Mc:=below_append Ya hown5 hgrow;rw [<-ah HN] at hown';clear hgrow hown5 Ya HN;go_wp2_with fail;go_roundw
   case rel=>exact⟨j+1,Aaa,Aai,Aau,hown',Mc⟩
   case measure=>simp[intOf];omega
  .obtain rfl:j=4:=Aaa
   obtain⟨g,cap,rfl,_,_⟩:=World.ownsRow.form hown Aaa;have hc:=Hq (hown.cells (g:=g) rfl);have hlt:=(hown.lt g rfl).2;have HB:=Hq hbel;clear hown hbel;go_wp2_with fail;exact bodyPost_ret (v:= .tuple #[.slice (some ⟨g,0,none⟩) 4 cap,.int .i64 (gI s 4)]) (by simp[results,Tryz.results215,go_sem]) rfl ⟨g,cap,rfl,hlt,⟨hc 0 _ rfl,hc 1 _ rfl,hc 2 _ rfl,hc 3 _ rfl⟩,HB⟩
def Bz (s:ByteArray):Value:= .tuple #[nS (lW s),.bool (jH s)]
theorem Ch {s:ByteArray} (h:jH s=false):Bz s= .tuple #[.agg (bJ 0 0 0 0 0 ⟨#[]⟩ 0),.bool false]:=by
 unfold Bz lW;rw [h,if_neg Aac];rfl
theorem Jg {s:ByteArray} (h:0 < s.size):s.data.toList.headD 0=s[0]:=by
 have hl:=bn s;rw [List.headD_eq_head?_getD,List.head?_eq_getElem?,List.getElem?_eq_getElem Aaa];rfl
theorem wH (s:ByteArray) (i:Int) (hs:s.size<=maxLen) (w:World) (hH:Handle w):Calls Tryz.prog 244 #[.string s,.int .i64 i] w (eP w (.tuple #[.int .i64 (sH s i),.int .i64 (jK s i)])):=by
 have h:=Mv s i w hs hH;rw [Dh] at h;exact h
theorem Ju (s:ByteArray) (i:Int) (hs:s.size<=maxLen) (w:World) (hH:Handle w):Calls Tryz.prog 183 #[.string s,.int .i64 i] w (eP w (.tuple #[.string (jc s i),.int .i64 (iO s i)])):=by
 have h:=Mw s i w hs hH;rw [AX] at h;exact h
theorem Dn (w:World):Calls Tryz.prog 246 #[.string ByteArray.empty] w (eP w (.tuple #[.agg (bJ 0 0 0 0 0 ⟨#[]⟩ 0),.bool false])):=by
 go_enter Tryz.func246,Tryz.ntmps246
 go_wp2_with fail;exact bodyPost_ret (v:= .tuple #[.agg (bJ 0 0 0 0 0 ⟨#[]⟩ 0),.bool false]) (by simp[results,Tryz.results246,go_sem]) rfl ⟨rfl,aj w _⟩
theorem BF (s:ByteArray) (hs:s.size<=maxLen) (h0:0 < s.size) (w:World) (hH:Handle w):Calls Tryz.prog 246 #[.string s] w (eP w (Bz s)):=by
 have VJ:=Hq (λw1 h=>wH s (gI s 0) hs w1 h);have HG2:=Hq (λw1 h=>wH s (gI s 1) hs w1 h);have KG:=Hq (λw1 h=>wH s (gI s 2) hs w1 h);have HG4:=Hq (λw1 h=>wH s (gI s 3) hs w1 h);have HG5:=Hq (λw1 h=>Ju s (gI s 4) hs w1 h);have HG6:=Hq (λw1 h=>wH s (iO s (gI s 4)) hs w1 h);have e1:jK s (gI s 0)=gI s 1:=rfl;have e2:jK s (gI s 1)=gI s 2:=rfl;have e3:jK s (gI s 2)=gI s 3:=rfl;have e4:jK s (gI s 3)=gI s 4:=rfl;have ez:gI s 0=1:=rfl;rw [e1] at VJ;rw [e2] at HG2;rw [e3] at KG;rw [e4] at HG4;have HP:=Hq (λw1=>He (cand s) w1);have HO:=Hq (show jH s=(decide (vT s=s.size)&&bX (cand s)) by unfold jH;rw [decide_eq_true h0];rfl);have hmx:0<=maxLen:=Nat.zero_le _;open ak0 in exact arX
theorem Dl (s:ByteArray) (hs:s.size<=maxLen) (w:World) (hH:Handle w):Calls Tryz.prog 246 #[.string s] w (eP w (Bz s)):=by
 by_cases h0:s.size=0
 .obtain rfl:=eq_empty s h0;rw [Ch (show jH ByteArray.empty=false by unfold jH;simp)];exact Dn w
 .exact BF s hs Aaa w hH
theorem F5 (m:Mg) (w:World) (hs:m.k.size<=maxLen) (h:bX m=false):Calls Tryz.prog 214 #[nS m] w (eP w (.string ByteArray.empty)):=by
 have HO:=Hq (λw1=>jV m w1 hs);rw [h] at HO;clear h hs;obtain⟨K,F,T,I,L,k,N⟩:=m;go_enter Tryz.func214,Tryz.ntmps214
 exact adK
theorem Em (m:Mg) (w:World) (hs:m.k.size<=maxLen) (h:bX m=true):Calls Tryz.prog 214 #[nS m] w (eP w (.string (yC m))):=by
 have hK:=abh h;have HO:=Hq (λw1=>jV m w1 hs);rw [h] at HO;clear h hs;obtain⟨K,F,T,I,L,k,N⟩:=m;obtain⟨XW,hK2⟩:=hK;dsimp only at XW hK2
 have hw8:IntKind.u8.wrap K=K:=by
  have h3:K=0\/K=1\/K=2:=Aaa
  rcases h3 with rfl|rfl|rfl<;>rfl
 show Calls Tryz.prog 214 #[nS ⟨K,F,T,I,L,k,N⟩] w (eP w (.string (kb K++lH F++lH T++lH I++lH L++nJ k++lH N)))
 have N1:=Hq (λw1=>kK F w1);have N2:=Hq (λw1=>kK T w1);have N3:=Hq (λw1=>kK I w1);have N4:=Hq (λw1=>kK L w1);have N5:=Hq (λw1=>uN k w1);have N6:=Hq (λw1=>kK N w1);have s1:=mG F;have s2:=mG T;have s3:=mG I;have s4:=mG L;have s5:=Ae k;have s6:=mG N;have s0:=RZ K;have HCV:=Hq (λw1 g=>Tw w1 g K ⟨XW,hK2⟩);generalize lH F=bF at *;generalize lH T=bT at *;generalize lH I=bI at *;generalize lH L=bL at *;generalize nJ k=bk at *;generalize lH N=bN at *;generalize kb K=bK at *;have a1:=λw1=>run_string_add_sum (P:=Tryz.prog) w1 bK bF Aaa
 have a2:=λw1=>run_string_add_sum (P:=Tryz.prog) w1 (bK++bF) bT (by rw [ByteArray.size_append];omega)
 have a3:=λw1=>run_string_add_sum (P:=Tryz.prog) w1 (bK++bF++bT) bI Abq
 have a4:=λw1=>run_string_add_sum (P:=Tryz.prog) w1 (bK++bF++bT++bI) bL Abq
 have a5:=λw1=>run_string_add_sum (P:=Tryz.prog) w1 (bK++bF++bT++bI++bL) bk Abq
 have a6:=λw1=>run_string_add_sum (P:=Tryz.prog) w1 (bK++bF++bT++bI++bL++bk) bN Abq
 have HA:=Hq (And.intro a1 (And.intro a2 (And.intro a3 (And.intro a4 (And.intro a5 a6)))));clear s0 s1 s2 s3 s4 s5 s6 a1 a2 a3 a4 a5 a6 XW hK2;go_enter Tryz.func214,Tryz.ntmps214
 go_wp2_with fail;refine(HO _).mono ?_;rintro e w1 ⟨rfl,hb1⟩;have hA:=aI (heap_alloc_new w _) hb1;have hB:=(aj w _).trans (hb1.mono Aac);obtain⟨c0,c1,c2,c3,c4,c5,c6⟩:=rH hA;have hz:=cu hA;clear hb1;go_upto_region 3 with fail;refine wp_at (λV hV=>?_);have hblk:V.heap[w.heap.size]?=some (.cells (bJ K F T I L k N) 32 (0,0)):=by rw [hV];exact hA
 have uR:=Hq (show aX w V by rw [hV];exact hB);have hgV:=cu hblk;obtain⟨p0,p1,p2,p3,p4,p5,p6⟩:=rH hblk;clear hV hblk hA hB c0 c1 c2 c3 c4 c5 c6 hz;open ai4 in exact Ls
theorem El (m:Mg) (w:World) (hs:m.k.size<=maxLen):Calls Tryz.prog 214 #[nS m] w (eP w (.string (jq m))):=by
 cases h:bX m
 .rw [zZ h];exact F5 m w hs h
 .rw [wQ h];exact Em m w hs h
theorem Ir (o:gM) (w:World) (hs:o.k.size<=maxLen) (hm:o.m.k.size<=maxLen):Calls Tryz.prog 212 #[jB o] w (eP w (.bool (bV o))):=by
 have HO:=Hq (λw1=>jf o w1 hs hm);generalize bV o=r at *;obtain⟨K,no,k,n,⟨mK,mF,mT,mI,mL,mk,mN⟩⟩:=o;go_enter Tryz.func212,Tryz.ntmps212
 exact as9
theorem J7 (o:gM) (w:World) (hs:o.k.size<=maxLen) (hm:o.m.k.size<=maxLen) (h:bV o=false):Calls Tryz.prog 178 #[jB o] w (eP w (.string ByteArray.empty)):=by
 have HO:=Hq (λw1=>Ir o w1 hs hm);rw [h] at HO;clear h hs hm;obtain⟨K,no,k,n,⟨mK,mF,mT,mI,mL,mk,mN⟩⟩:=o;go_enter Tryz.func178,Tryz.ntmps178
 exact adK
theorem F6 (o:gM) (w:World) (hs:o.k.size<=maxLen) (hm:o.m.k.size<=maxLen) (h:bV o=true):Calls Tryz.prog 178 #[jB o] w (eP w (.string (yG o))):=by
 have hK:=Us h;have HO:=Hq (λw1=>Ir o w1 hs hm);have NM:=Hq (λw1=>El o.m w1 hm);rw [h] at HO;clear h hs hm;obtain⟨K,no,k,n,m⟩:=o;obtain⟨XW,hK6⟩:=hK;dsimp only at XW hK6 NM;have hw8:=QO K XW hK6;show Calls Tryz.prog 178 #[jB ⟨K,no,k,n,m⟩] w (eP w (.string (kb K++lH no++nJ k++lH n++nJ (jq m))))
 have N1:=Hq (λw1=>kK no w1);have N2:=Hq (λw1=>uN k w1);have N3:=Hq (λw1=>kK n w1);have N4:=Hq (λw1=>uN (jq m) w1);have s1:=mG no;have s2:=Ae k;have s3:=mG n;have s4:=Ae (jq m);have s0:=RZ K;have HCV:=Hq (λw1 g=>PI w1 g K ⟨XW,hK6⟩);generalize lH no=b1 at *;generalize nJ k=b2 at *;generalize lH n=b3 at *;generalize nJ (jq m)=b4 at *;generalize jq m=bM at *;generalize kb K=bK at *;obtain⟨mK,mF,mT,mI,mL,mk,mN⟩:=m;have a1:=λw1=>run_string_add_sum (P:=Tryz.prog) w1 bK b1 Aaa
 have a2:=λw1=>run_string_add_sum (P:=Tryz.prog) w1 (bK++b1) b2 Abq
 have a3:=λw1=>run_string_add_sum (P:=Tryz.prog) w1 (bK++b1++b2) b3 Abq
 have a4:=λw1=>run_string_add_sum (P:=Tryz.prog) w1 (bK++b1++b2++b3) b4 Abq
 have HA:=Hq (And.intro a1 (And.intro a2 (And.intro a3 a4)));clear s0 s1 s2 s3 s4 a1 a2 a3 a4 XW hK6;go_enter Tryz.func178,Tryz.ntmps178
 go_wp2_with fail;refine(HO _).mono ?_;rintro e w1 ⟨rfl,hb1⟩;have hA:=aI (heap_alloc_new w _) hb1;have hB:=(aj w _).trans (hb1.mono Aac);obtain⟨c0,c1,c2,c3,c4,c5,c6,c7,c8,c9,c10⟩:=Ry hA;have hz:=cu hA;clear hb1;go_upto_region 3 with fail;refine wp_at (λV hV=>?_);have hblk:V.heap[w.heap.size]?=some (.cells (bY K no k n mK mF mT mI mL mk mN) 34 (0,0)):=by rw [hV];exact hA
 have uR:=Hq (show aX w V by rw [hV];exact hB);have hgV:=cu hblk;obtain⟨p0,p1,p2,p3,p4,p5,p6,p7,p8,p9,mP⟩:=Ry hblk;clear hV hblk hA hB c0 c1 c2 c3 c4 c5 c6 c7 c8 c9 c10 hz;open ai5 in exact Ls
theorem UY (o:gM) (w:World) (hs:o.k.size<=maxLen) (hm:o.m.k.size<=maxLen):Calls Tryz.prog 178 #[jB o] w (eP w (.string (uI o))):=by
 cases h:bV o
 .rw [Nv h];exact J7 o w hs hm h
 .rw [Ab h];exact F6 o w hs hm h
end Go.Proofs.YtacgbldlonoaaaaGreatDoor
