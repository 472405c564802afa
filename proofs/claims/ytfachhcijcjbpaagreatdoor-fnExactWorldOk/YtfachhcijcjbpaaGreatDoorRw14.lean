/- Parts. -/
import Derived.Test.YtfachhcijcjbpaaGreatDoorRw6
import Derived.Test.YtfachhcijcjbpaaGreatDoorRw11
namespace Go.Proofs.YtfachhcijcjbpaaGreatDoor
open Go.Proofs.Tryz
set_option maxHeartbeats 4000000
set_option maxRecDepth 100000
open Go.RowKit
open Mth
variable (s:ByteArray) {i:Int} {n c:Nat}
def gV (s:ByteArray) (i:Int):Option (Nat×Nat):=if i < 0 then none else Mth.get s.data.toList i.toNat
theorem BU (i:Int) (h:i < 0):gV s i=none:=by simp[gV,h]
theorem wL (n:Nat):gV s n=Mth.get s.data.toList n:=by
 unfold gV;rw [aEG Aaa];rfl
theorem ac7 (i:Int) (w:World) (hs:s.size<=maxLen):Calls prog 271 #[.string s,.int .i64 i] w λe w'=>e= .returned (rJ (gV s i) i)/\w=w':=by
 by_cases h:i < 0
 .rw [BU s i h];exact YV s i w h
 .obtain⟨n,rfl⟩:=Int.eq_ofNat_of_zero_le (show 0<=i by omega);rw [wL];exact ayP s n w hs
theorem Dj (i:Int) (w:World) (hs:s.size<=maxLen):Calls prog 92 #[.string s,.int .i64 i] w (dK w (vV (gV s i) i)):=by
 by_cases h:i < 0
 .rw [BU s i h];exact(GH s i w h).mono λe w' ⟨he,hw⟩=>⟨he,hw▸aEK _ _⟩
 .obtain⟨n,rfl⟩:=Int.eq_ofNat_of_zero_le (show 0<=i by omega);rw [wL];exact Vk s n w hs
theorem Qf (s:ByteArray) (i:Int) (w:World) (hs:s.size<=maxLen) (hH:Handle w):Calls prog 274 #[.string s,.int .i64 i] w (dK w (vV (gV s i) i)):=by
 have HN:=Hq (λw1=>ac7 s i w1 hs);have HH:=Hq hH;clear hH;cases hG:gV s i with
 |none=>
  rw [hG] at HN;go_in
  go_wp2_with (first|(go_at_call 271;refine(HN _).mono ?_;rintro e w' ⟨rfl,rfl⟩;simp only[rJ])|(go_at_call 235;refine(QB _ _ HH).mono ?_;rintro e w' ⟨rfl,hbel⟩))
  go_ret2
  exact⟨rfl,hbel⟩
 |some p=>
  obtain⟨n,c⟩:=p;rw [hG] at HN;go_in
  go_wp2_with (first|(go_at_call 271;refine(HN _).mono ?_;rintro e w' ⟨rfl,rfl⟩;simp only[rJ])|(go_at_call 235;refine(QA _).mono ?_;rintro e w' ⟨rfl,hbel⟩))
  go_ret2
  exact⟨rfl,hbel⟩
def Ep (o:Option (ByteArray×Nat)):Value:=
 match o with
 |none=> .tuple #[.string ByteArray.empty,.int .i64 (-1)]
 |some (t,b)=> .tuple #[.string t,.int .i64 b]
def textOf (s:ByteArray) (i:Nat) (o:Option (Nat×Nat)):Option (ByteArray×Nat):=
 match o with
 |none=>none
 |some (n,c)=>if 1000 < n\/s.size - (i+c) < n then none else some (s.extract (i+c) (i+c+n),i+c+n)
theorem uw {s:ByteArray} (h:gV s i=some (n,c)):∃k:Nat,i=k/\Mth.get s.data.toList k=some (n,c)/\n<=4000000000/\k+c<=s.size:=by
 by_cases h0:i < 0
 .rw [BU s i h0] at h;cases h
 .obtain⟨k,rfl⟩:=Int.eq_ofNat_of_zero_le (show 0<=i by omega);have h':gV s (k:Int)=some (n,c):=h;rw [wL] at h';have hb:=Mth.get_bound _ _ _ _ h';rw [aZ] at hb;exact⟨k,rfl,h',hb.1,hb.2.2.2⟩
theorem Ry (s:ByteArray) (i:Int) (w:World) (hs:s.size<=maxLen):Calls prog 63 #[.string s,.int .i64 i] w (dK w (Ep (textOf s i.toNat (gV s i)))):=by
 have HS:=Hq (λw1=>Dj s i w1 hs);unfold maxLen at hs;cases hG:gV s i with
 |none=>
  rw [hG] at HS;open auH in exact aaV
 |some p=>
  obtain⟨n,c⟩:=p;obtain⟨k,rfl,_,hn,hk⟩:=uw hG;rw [hG] at HS;by_cases hbad:1000 < n\/s.size - (k+c) < n
  .have HR:Hid (textOf s k (some (n,c))=none):=by unfold textOf;exact aER hbad
   rw [aFy];by_cases h1:1000 < n
   .exact ahX
   .have h2:(s.size:Int) - ((k:Int)+(c:Int)) < (n:Int):=Aaa
    exact ahX
  .open atf in exact agX
def Oe (o:Option (Nat×Nat)) (i:Int):Value:=
 match o with
 |none=> .iface 324 (.agg #[.iface 324 (.agg #[.iface 326 (.agg #[.int .i64 i])])])
 |some _=> .iface 324 (.agg #[.iface 326 (.agg #[.int .i64 i])])
def tL (t:Option (ByteArray×Nat)) (o:Option (Nat×Nat)) (i:Int):Value:=
 match t with
 |none=> .tuple #[.string ByteArray.empty,.int .i64 0,Oe o i]
 |some (x,b)=> .tuple #[.string x,.int .i64 b,.nilIface]
theorem alK (s:ByteArray) (i:Int) (w:World) (hs:s.size<=maxLen):Calls prog 234 #[.string s,.int .i64 i] w (dK w (tL (textOf s i.toNat (gV s i)) (gV s i) i)):=by
 have HS:=Hq (λw1=>ac7 s i w1 hs);unfold maxLen at hs;cases hG:gV s i with
 |none=>
  rw [hG] at HS;go_in
  go_wp2_with (go_at_call 271;refine(HS _).mono ?_;rintro e w1 ⟨rfl,rfl⟩;simp only[rJ])
  go_ret3
  exact⟨rfl,aEK _ _⟩
 |some p=>
  obtain⟨n,c⟩:=p;obtain⟨k,rfl,_,hn,hk⟩:=uw hG;rw [hG] at HS;by_cases hbad:1000 < n\/s.size - (k+c) < n
  .have HR:Hid (textOf s k (some (n,c))=none):=by unfold textOf;exact aER hbad
   rw [aFy];by_cases h1:1000 < n
   .exact axI
   .have h2:(s.size:Int) - ((k:Int)+(c:Int)) < (n:Int):=Aaa
    exact axI
  .open atg in exact agX
theorem Qg (s:ByteArray) (i:Int) (w:World) (hs:s.size<=maxLen) (hH:Handle w):Calls prog 215 #[.string s,.int .i64 i] w (dK w (Ep (textOf s i.toNat (gV s i)))):=by
 have HN:=Hq (λw1=>alK s i w1 hs);have HH:=Hq hH;clear hH;cases hT:textOf s i.toNat (gV s i) with
 |none=>
  rw [hT] at HN;cases hG:gV s i with
  |none=>
   rw [hG] at HN;go_in
   go_wp2_with (first|(go_at_call 234;refine(HN _).mono ?_;rintro e w1 ⟨rfl,hb1⟩;simp only[tL,Oe])|(go_at_call 235;refine(acH _ _ (HH.below hb1)).mono ?_;rintro e w2 ⟨rfl,hb2⟩))
   exact abl
  |some p=>
   rw [hG] at HN;go_in
   go_wp2_with (first|(go_at_call 234;refine(HN _).mono ?_;rintro e w1 ⟨rfl,hb1⟩;simp only[tL,Oe])|(go_at_call 235;refine(QB _ _ (HH.below hb1)).mono ?_;rintro e w2 ⟨rfl,hb2⟩))
   exact abl
 |some p=>
  obtain⟨x,b⟩:=p;rw [hT] at HN;go_in
  go_wp2_with (first|(go_at_call 234;refine(HN _).mono ?_;rintro e w1 ⟨rfl,hb1⟩;simp only[tL])|(go_at_call 235;refine(QA _).mono ?_;rintro e w2 ⟨rfl,hb2⟩))
  exact abl
def alx (o:Option (Nat×Nat)):Int:=match o with|none=>0|some (n,_)=>n
def afI (o:Option (Nat×Nat)) (i:Int):Int:=match o with|none=> -1|some (_,c)=>i+c
theorem Fw (o:Option (Nat×Nat)) (i:Int):vV o i= .tuple #[.int .i64 (alx o),.int .i64 (afI o i)]:=by cases o<;>rfl
def ZX (o:Option (ByteArray×Nat)):ByteArray:=match o with|none=>ByteArray.empty|some (t,_)=>t
def Sg (o:Option (ByteArray×Nat)):Int:=match o with|none=> -1|some (_,b)=>b
theorem Dl (o:Option (ByteArray×Nat)):Ep o= .tuple #[.string (ZX o),.int .i64 (Sg o)]:=by cases o<;>rfl
theorem Gh {s:ByteArray} (h:gV s i=some (n,c)):∃k:Nat,i=k/\k+c<=s.size/\0 < c/\n<=4000000000/\(lW n).toList=(s.extract k (k+c)).toList:=by
 obtain⟨k,rfl,hg,hn,hk⟩:=uw h;have hb:=Mth.get_bound _ _ _ _ hg;refine⟨k,rfl,hk,hb.2.1,hn,?_⟩;unfold lW;rw [aER Aaa,aFy,ByteArray.toList_mk,aFZ,Mth.get_was_put _ _ _ _ hg];congr 1;omega
theorem Zg {s:ByteArray} {i:Int} {t:ByteArray} {e:Nat} (h:textOf s i.toNat (gV s i)=some (t,e)):∃k:Nat,i=k/\k < e/\e<=s.size/\t.size<=1000/\(oh t).toList=(s.extract k e).toList:=by
 cases hG:gV s i with
 |none=>rw [hG] at h;simp[textOf] at h
 |some p=>
  obtain⟨n,c⟩:=p;obtain⟨k,rfl,hk,hc,hn,hput⟩:=Gh hG;rw [hG,aFy] at h;unfold textOf at h;simp only at h;split at h
  .cases h
  .rename_i hbad
   simp only[aFR,Prod.mk.injEq] at h;obtain⟨rfl,rfl⟩:=h;have hsz:(s.extract (k+c) (k+c+n)).size=n:=by rw [aF6];omega
   refine⟨k,rfl,Aaa,Aaa,Aaa,?_⟩;unfold oh;rw [aER Aaa];unfold ru;rw [ByteArray.toList_mk,hsz]
   have e1:Mth.put n=(s.extract k (k+c)).toList:=by
    rw [<-hput];unfold lW;rw [aER Aaa,aFy,ByteArray.toList_mk]
   rw [e1,aFZ,aFV,aFZ];have h1:k+c - k=c:=Aaa
   have h2:k+c+n - (k+c)=n:=Aaa
   have h3:k+c+n - k=c+n:=Aaa
   rw [h1,h2,h3,<-List.drop_drop,List.take_add]
open Mth
def uN (s:ByteArray) (i:Int):Int:=alx (gV s i)
def jR (s:ByteArray) (i:Int):Int:=afI (gV s i) i
def jU (s:ByteArray) (i:Int):ByteArray:=ZX (textOf s i.toNat (gV s i))
def iR (s:ByteArray) (i:Int):Int:=Sg (textOf s i.toNat (gV s i))
theorem lH {s:ByteArray} {i:Int} (h:0<=jR s i):0<=i/\i<=jR s i/\jR s i<=s.size/\(lW (uN s i)).data.toList=(s.data.toList.take (jR s i).toNat).drop i.toNat:=by
 unfold jR uN at *;cases hG:gV s i with
 |none=>rw [hG] at h;simp[afI] at h
 |some p=>
  obtain⟨n,c⟩:=p;obtain⟨k,rfl,hk,hc,hn,hput⟩:=Gh hG;simp only[afI,alx];refine⟨Aaa,Aaa,Aaa,?_⟩;rw [<-aFk,hput,aFZ,List.drop_take];simp only[aFy];rfl
theorem iD {s:ByteArray} {i:Int} (h:0<=iR s i):0<=i/\i<=iR s i/\iR s i<=s.size/\(jU s i).size<=1000/\(oh (jU s i)).data.toList=(s.data.toList.take (iR s i).toNat).drop i.toNat:=by
 unfold iR jU at *;cases hG:textOf s i.toNat (gV s i) with
 |none=>rw [hG] at h;simp[Sg] at h
 |some p=>
  obtain⟨t,e⟩:=p;obtain⟨k,rfl,hk,hc,hn,hput⟩:=Zg hG;simp only[Sg,ZX];refine⟨Aaa,Aaa,Aaa,hn,?_⟩;rw [<-aFk,hput,aFZ,List.drop_take];simp only[aFy]
def xY (s:ByteArray):Int:=jR s (iR s (jR s (jR s (jR s (jR s 1)))))
def cand (s:ByteArray):Mg:=
 ⟨(s.data.toList.headD 0).toNat,uN s 1,uN s (jR s 1),uN s (jR s (jR s 1)),uN s (jR s (jR s (jR s 1))),jU s (jR s (jR s (jR s (jR s 1)))),uN s (iR s (jR s (jR s (jR s (jR s 1)))))⟩
theorem nG (l:List UInt8) (i j:Nat) (h:i<=j):l.take i++(l.take j).drop i=l.take j:=by
 have h2:(l.take j).take i=l.take i:=by rw [aGg,aFH h]
 rw [<-h2,aFm]
theorem E9 {s:ByteArray} (hs:0 < s.size) (h:0<=xY s):xY s<=s.size/\(AJ (cand s)).data.toList=s.data.toList.take (xY s).toNat:=by
 unfold xY at h;obtain⟨g5,l6,e6,q6⟩:=lH h;obtain⟨g4,l5,e5,_,q5⟩:=iD g5;obtain⟨g3,l4,e4,q4⟩:=lH g4;obtain⟨g2,l3,e3,q3⟩:=lH g3;obtain⟨g1,l2,e2,q2⟩:=lH g2;obtain⟨g0,l1,e1,q1⟩:=lH g1;refine⟨e6,?_⟩;unfold AJ cand xY;simp only[ByteArray.data_append,aGf];rw [q1,q2,q3,q4,q5,q6]
 have q0:(kb ((s.data.toList.headD 0).toNat:Int)).data.toList=s.data.toList.take (1:Int).toNat:=by
  exact aiI
 rw [q0,nG _ _ _ Aaa,nG _ _ _ Aaa,nG _ _ _ Aaa,nG _ _ _ Aaa,nG _ _ _ Aaa,nG _ _ _ Aaa]
def mg0:Mg:=⟨0,0,0,0,0,ByteArray.empty,0⟩
def jP (s:ByteArray):Bool:=decide (0 < s.size)&&decide (xY s=s.size)&&bJ (cand s)
def mH (s:ByteArray):Mg:=if jP s=true then cand s else mg0
theorem Fv {s:ByteArray} (hs:0 < s.size):jP s=(decide (0<=xY s)&&decide (jy (cand s)=s)):=by
 rw [aFI];unfold jP;simp only[aED,aE3];constructor
 .rintro⟨⟨_,h1⟩,h2⟩;have h0:0<=xY s:=Aaa
  refine⟨h0,?_⟩;rw [ze h2];apply aFP
  apply Array.ext'
  rw [(E9 hs h0).2,h1,aFy,aFX (by rw [aZ];exact aEx _)]
 .rintro⟨h0,h1⟩;obtain⟨hl,hb⟩:=E9 hs h0;cases hm:bJ (cand s) with
  |false=>
   rw [Cq hm] at h1;rw [<-h1] at hs;exact absurd hs Aag
  |true=>
   rw [ze hm] at h1;refine⟨⟨hs,?_⟩,rfl⟩;rw [h1] at hb;have:=congrArg List.length hb;rw [aEX,aZ] at this;omega
def KD (s:ByteArray):Int:=jR s (iR s (jR s 1))
def Bw (s:ByteArray):ByteArray:=jU s (KD s)
def M8 (s:ByteArray):Int:=iR s (KD s)
def opC (s:ByteArray):gD:=⟨(s.data.toList.headD 0).toNat,uN s 1,jU s (jR s 1),uN s (iR s (jR s 1)),mH (Bw s)⟩
def qW (s:ByteArray):Bool:=decide ((Bw s).size=0)||jP (Bw s)
theorem afE:bJ mg0=false:=Aag
theorem KV {s:ByteArray} (h:s.size=0):s=ByteArray.empty:=eq_empty s h
theorem Ke {b:ByteArray} (h:b.size=0):mH b=mg0/\jP b=false:=by
 have ho:jP b=false:=by unfold jP;rw [aEw Aaa];rfl
 refine⟨?_,ho⟩;unfold mH;rw [ho,aEG Aac]
theorem Ya {s:ByteArray} (h:qW s=true):jy (mH (Bw s))=Bw s:=by
 by_cases h0:(Bw s).size=0
 .rw [(Ke h0).1,Cq afE,KV h0]
 .unfold qW at h;rw [aEw h0,Bool.false_or] at h;have h2:=Fv (s:=Bw s) Aaa;rw [h] at h2;unfold mH;rw [aER h];have h3:=h2.symm;simp only[aED,aE3] at h3;exact h3.2
theorem Kv {s:ByteArray} (hs:0 < s.size) (h:0<=M8 s) (hb:qW s=true):M8 s<=s.size/\(AR (opC s)).data.toList=s.data.toList.take (M8 s).toNat:=by
 have hq:=Ya hb;unfold M8 Bw at *;obtain⟨g3,l4,e4,_,q4⟩:=iD h;unfold KD at g3 l4 e4 q4 hq h ⊢;obtain⟨g2,l3,e3,q3⟩:=lH g3;obtain⟨g1,l2,e2,_,q2⟩:=iD g2;obtain⟨g0,l1,e1,q1⟩:=lH g1;refine⟨e4,?_⟩;unfold AR opC Bw KD;simp only[ByteArray.data_append,aGf];rw [hq,q1,q2,q3,q4]
 have q0:(kb ((s.data.toList.headD 0).toNat:Int)).data.toList=s.data.toList.take (1:Int).toNat:=by
  exact aiI
 rw [q0,nG _ _ _ Aaa,nG _ _ _ Aaa,nG _ _ _ Aaa,nG _ _ _ Aaa]
def op0:gD:=⟨0,0,ByteArray.empty,0,mg0⟩
def kN (s:ByteArray):Bool:=decide (0 < s.size)&&decide (M8 s=s.size)&&qW s&&bC (opC s)
def getOp (s:ByteArray):gD:=if kN s=true then opC s else op0
theorem Yo {s:ByteArray} (hs:0 < s.size):kN s=(decide (0<=M8 s)&&qW s&&decide (wB (opC s)=s)):=by
 rw [aFI];unfold kN;simp only[aED,aE3];constructor
 .rintro⟨⟨⟨_,h1⟩,hb⟩,h2⟩;have h0:0<=M8 s:=Aaa
  refine⟨⟨h0,hb⟩,?_⟩;rw [Cr h2];apply aFP
  apply Array.ext'
  rw [(Kv hs h0 hb).2,h1,aFy,aFX (by rw [aZ];exact aEx _)]
 .rintro⟨⟨h0,hb⟩,h1⟩;obtain⟨hl,hq⟩:=Kv hs h0 hb;cases hm:bC (opC s) with
  |false=>
   rw [QY hm] at h1;rw [<-h1] at hs;exact absurd hs Aag
  |true=>
   rw [Cr hm] at h1;refine⟨⟨⟨hs,?_⟩,hb⟩,rfl⟩;rw [h1] at hq;have:=congrArg List.length hq;rw [aEX,aZ] at this;omega
theorem tC (i:Int):(jU s i).size<=1000:=by
 exact ah0
theorem ac9:(mH s).k.size<=1000:=by
 unfold mH;split
 .exact tC _ _
 .decide
def fV (s:ByteArray):Nat->Int
 |0=>1
 |j+1=>jR s (fV s j)
def numsL (s:ByteArray) (j:Nat):List Value:=(List.range j).map λi=> .int .i64 (uN s (fV s i))
theorem UR (j:Nat):numsL s (j+1)=numsL s j++[.int .i64 (uN s (fV s j))]:=by unfold numsL;rw [aGm,List.map_append];rfl
theorem acA:(prog.info? 3).map (λi=>(i.zero,i.size,i.bytes))=some (some (.int .i64 0),1,8):=Aab
theorem own_below {w w':World} {base size n:Nat} {e:TypeId} {v:Value} {xs:List Value} (h:w.ownsRow base e size v n xs) (hb:aG w w'):w'.ownsRow base e size v n xs:=by
 refine h.kept (row:=none) ⟨hb.os,hb.tape,hb.output,hb.size,λk hk _=>hb.block k hk⟩ ?_;cases hv:v.ownBlock with
 |none=>exact .inl rfl
 |some k=>right;simp
theorem NJ (i:Int) (hs:s.size<=maxLen) (w:World):Calls prog 92 #[.string s,.int .i64 i] w (dK w (.tuple #[.int .i64 (uN s i),.int .i64 (jR s i)])):=by
 have h:=Dj s i w hs;rw [Fw] at h;exact h
theorem NV (i:Int) (hs:s.size<=maxLen) (w:World):Calls prog 63 #[.string s,.int .i64 i] w (dK w (.tuple #[.string (jU s i),.int .i64 (iR s i)])):=by
 have h:=Ry s i w hs;rw [Dl] at h;exact h
theorem afA (hs:s.size<=maxLen) (w:World):Calls prog 132 #[.string s,.int .i64 1,.int .i64 4] w λe w'=>
 ∃g cap,e= .returned (.tuple #[.slice (some ⟨g,0,none⟩) 4 cap,.int .i64 (fV s 4)])/\g < w'.heap.size/\(w'.cell? ⟨g,0,none⟩=some (.int .i64 (uN s (fV s 0)))/\w'.cell? ⟨g,1,none⟩=some (.int .i64 (uN s (fV s 1)))/\w'.cell? ⟨g,2,none⟩=some (.int .i64 (uN s (fV s 2)))/\w'.cell? ⟨g,3,none⟩=some (.int .i64 (uN s (fV s 3))))/\aG w w':=by
 obtain⟨i0,hi,hz0,hz1,hz2⟩:=aEY acA;have HG:=Hq (λi w1=>NJ s i hs w1);clear hs;go_in
 go_wp2_with fail;go_loopw [8,9,10] (λv a k wr=>∃j,j<=4/\k= .int .i64 (j:Nat)/\a= .int .i64 (fV s j)/\wr.ownsRow w.heap.size 3 1 v j (numsL s j)/\aG w wr) (λ_ _ k _=>4 - (intOf k).toNat)
 case atStart=>exact⟨0,Aaa,rfl,rfl,aFb _ #[] 0 (aEx _) Aag rfl,(aEK _ _).alloc (aEx _) _⟩
 case round=>
  obtain⟨j,hj,rfl,rfl,hown,hbel⟩:=hrel;by_cases hlt:j < 4
  .have HN:=Hq (UR s j);have HP:=Hq (show fV s (j+1)=jR s (fV s j) from rfl);have hg:=λw1=>HG (fV s j) w1
   generalize uN s (fV s j)=x at *;generalize jR s (fV s j)=a' at *;generalize fV s j=a at *;have Ie:=Hq hg;clear hg;go_wp2_with fail;refine(Ie _).mono ?_;rintro e w5 ⟨rfl,hb5⟩;have hown5:=own_below hown hb5;have ab1:=hbel.trans (hb5.mono hbel.size);clear hb5 hown hbel;go_wp2_with (at_builtin;refine aFf _ rfl _ _ 22 rfl w.heap.size 3 i0 (.int .i64 0) 1 8 underlying22 hi hz0 hz1 hz2 rfl Aag _ _ _ rfl (hown5.alloc _) ⟨w5.heap.size,0,none⟩ 1 1 [.int .i64 x] rfl rfl ?c1 ?c2 ?c3 ?c4 ?c5 ?_)
   case c1=>exact cell_one_new _ _ _
   case c2=>intro u hu;simp at hu;subst hu;rfl
   case c3=>unfold maxLen;omega
   case c4=>omega
   case c5=>have:=ab1.size;simp;omega
   intro v' w6 hown' hgrow _;have zZ:=below_append ab1 hown5 hgrow;rw [<-ah HN] at hown';clear hgrow hown5 ab1 HN;go_wp2_with fail;go_roundw
   case rel=>exact⟨j+1,Aaa,Aaf,Aav,hown',zZ⟩
   case measure=>simp[intOf];omega
  .obtain rfl:j=4:=Aaa
   obtain⟨g,cap,rfl,_,_⟩:=World.ownsRow.form hown Aaa;have hc:=Hq (hown.cells (g:=g) rfl);have hlt:=(hown.lt g rfl).2;have HB:=Hq hbel;clear hown hbel;go_wp2_with fail;exact aEE (v:= .tuple #[.slice (some ⟨g,0,none⟩) 4 cap,.int .i64 (fV s 4)]) (by simp[results,results132,go_sem]) rfl ⟨g,cap,rfl,hlt,⟨hc 0 _ rfl,hc 1 _ rfl,hc 2 _ rfl,hc 3 _ rfl⟩,HB⟩
def DU (s:ByteArray):Value:= .tuple #[nT (mH s),.bool (jP s)]
theorem El {s:ByteArray} (h:jP s=false):DU s= .tuple #[.agg (bH 0 0 0 0 0 ⟨#[]⟩ 0),.bool false]:=by
 unfold DU mH;rw [h,aEG Aac];rfl
theorem Mq {s:ByteArray} (h:0 < s.size):s.data.toList.headD 0=s[0]:=by
 have hl:=aZ s;rw [List.headD_eq_head?_getD,List.head?_eq_getElem?,aEB Aaa];rfl
theorem yK (i:Int) (hs:s.size<=maxLen) (w:World) (hH:Handle w):Calls prog 274 #[.string s,.int .i64 i] w (dK w (.tuple #[.int .i64 (uN s i),.int .i64 (jR s i)])):=by
 have h:=Qf s i w hs hH;rw [Fw] at h;exact h
theorem MQ (i:Int) (hs:s.size<=maxLen) (w:World) (hH:Handle w):Calls prog 215 #[.string s,.int .i64 i] w (dK w (.tuple #[.string (jU s i),.int .i64 (iR s i)])):=by
 have h:=Qg s i w hs hH;rw [Dl] at h;exact h
theorem FH (w:World):Calls prog 276 #[.string ByteArray.empty] w (dK w (.tuple #[.agg (bH 0 0 0 0 0 ⟨#[]⟩ 0),.bool false])):=by
 go_in
 go_wp2_with fail;exact aEE (v:= .tuple #[.agg (bH 0 0 0 0 0 ⟨#[]⟩ 0),.bool false]) (by simp[results,results276,go_sem]) rfl ⟨rfl,au w _⟩
theorem DY (hs:s.size<=maxLen) (h0:0 < s.size) (w:World) (hH:Handle w):Calls prog 276 #[.string s] w (dK w (DU s)):=by
 have JM:=Hq (λw1 h=>yK s (fV s 0) hs w1 h);have HG2:=Hq (λw1 h=>yK s (fV s 1) hs w1 h);have Ey:=Hq (λw1 h=>yK s (fV s 2) hs w1 h);have HG4:=Hq (λw1 h=>yK s (fV s 3) hs w1 h);have tQ:=Hq (λw1 h=>MQ s (fV s 4) hs w1 h);have HG6:=Hq (λw1 h=>yK s (iR s (fV s 4)) hs w1 h);have e1:jR s (fV s 0)=fV s 1:=rfl;have e2:jR s (fV s 1)=fV s 2:=rfl;have e3:jR s (fV s 2)=fV s 3:=rfl;have e4:jR s (fV s 3)=fV s 4:=rfl;have ez:fV s 0=1:=rfl;rw [e1] at JM;rw [e2] at HG2;rw [e3] at Ey;rw [e4] at HG4;have HP:=Hq (λw1=>Kj (cand s) w1);have HO:=Hq (show jP s=(decide (xY s=s.size)&&bJ (cand s)) by unfold jP;rw [aEy h0];rfl);open ap6 in exact aww
theorem FE (hs:s.size<=maxLen) (w:World) (hH:Handle w):Calls prog 276 #[.string s] w (dK w (DU s)):=by
 by_cases h0:s.size=0
 .obtain rfl:=eq_empty s h0;rw [El (show jP ByteArray.empty=false by unfold jP;simp)];exact FH w
 .exact DY s hs Aaa w hH
end Go.Proofs.YtfachhcijcjbpaaGreatDoor
