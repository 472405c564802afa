/- Parts. -/
import Derived.Test.YtohmklmkjmlpjaaGreatDoorRc8
namespace Go.Proofs.YtohmklmkjmlpjaaGreatDoor
open Go.Proofs.Tryz
set_option maxHeartbeats 4000000
set_option maxRecDepth 100000
open Go.RowKit
open Mth
variable (s:ByteArray) {i:Int} {n c:Nat}
def iG (s:ByteArray) (i:Int):Option (Nat×Nat):=if i < 0 then none else Mth.get s.data.toList i.toNat
theorem Cg (i:Int) (h:i < 0):iG s i=none:=by simp[iG,h]
theorem xq (n:Nat):iG s n=Mth.get s.data.toList n:=by
 unfold iG;rw [aGr Aaa];rfl
theorem adv (i:Int) (w:World) (hs:s.size<=maxLen):Calls prog 251 #[.string s,.int .i64 i] w λe w'=>e= .returned (rX (iG s i) i)/\w=w':=by
 by_cases h:i < 0
 .rw [Cg s i h];exact Y6 s i w h
 .obtain⟨n,rfl⟩:=Int.eq_ofNat_of_zero_le (show 0<=i by omega);rw [xq];exact aA4 s n w hs
theorem Dl (i:Int) (w:World) (hs:s.size<=maxLen):Calls prog 102 #[.string s,.int .i64 i] w (dZ w (wG (iG s i) i)):=by
 by_cases h:i < 0
 .rw [Cg s i h];exact(Gz s i w h).mono λe w' ⟨he,hw⟩=>⟨he,hw▸aGs _ _⟩
 .obtain⟨n,rfl⟩:=Int.eq_ofNat_of_zero_le (show 0<=i by omega);rw [xq];exact Vm s n w hs
theorem Qb (s:ByteArray) (i:Int) (w:World) (hs:s.size<=maxLen) (hH:Handle w):Calls prog 254 #[.string s,.int .i64 i] w (dZ w (wG (iG s i) i)):=by
 have HN:=Hq (λw1=>adv s i w1 hs);have HH:=Hq hH;clear hH;cases hG:iG s i with
 |none=>
  rw [hG] at HN;go_in
  go_wp2_with (first|(go_at_call 251;refine(HN _).mono ?_;rintro e w' ⟨rfl,rfl⟩;simp only[rX])|(go_at_call 223;refine(Qv _ _ HH).mono ?_;rintro e w' ⟨rfl,hbel⟩))
  go_ret2
  exact⟨rfl,hbel⟩
 |some p=>
  obtain⟨n,c⟩:=p;rw [hG] at HN;go_in
  go_wp2_with (first|(go_at_call 251;refine(HN _).mono ?_;rintro e w' ⟨rfl,rfl⟩;simp only[rX])|(go_at_call 223;refine(Qu _).mono ?_;rintro e w' ⟨rfl,hbel⟩))
  go_ret2
  exact⟨rfl,hbel⟩
def Ey (o:Option (ByteArray×Nat)):Value:=
 match o with
 |none=> .tuple #[.string ByteArray.empty,.int .i64 (-1)]
 |some (t,b)=> .tuple #[.string t,.int .i64 b]
def textOf (s:ByteArray) (i:Nat) (o:Option (Nat×Nat)):Option (ByteArray×Nat):=
 match o with
 |none=>none
 |some (n,c)=>if 1000 < n\/s.size - (i+c) < n then none else some (s.extract (i+c) (i+c+n),i+c+n)
theorem uM {s:ByteArray} (h:iG s i=some (n,c)):∃k:Nat,i=k/\Mth.get s.data.toList k=some (n,c)/\n<=4000000000/\k+c<=s.size:=by
 by_cases h0:i < 0
 .rw [Cg s i h0] at h;cases h
 .obtain⟨k,rfl⟩:=Int.eq_ofNat_of_zero_le (show 0<=i by omega);have h':iG s (k:Int)=some (n,c):=h;rw [xq] at h';have hb:=Mth.get_bound _ _ _ _ h';rw [aW] at hb;exact⟨k,rfl,h',hb.1,hb.2.2.2⟩
theorem Rs (s:ByteArray) (i:Int) (w:World) (hs:s.size<=maxLen):Calls prog 53 #[.string s,.int .i64 i] w (dZ w (Ey (textOf s i.toNat (iG s i)))):=by
 have HS:=Hq (λw1=>Dl s i w1 hs);unfold maxLen at hs;cases hG:iG s i with
 |none=>
  rw [hG] at HS;open awD in exact aaX
 |some p=>
  obtain⟨n,c⟩:=p;obtain⟨k,rfl,_,hn,hk⟩:=uM hG;rw [hG] at HS;by_cases hbad:1000 < n\/s.size - (k+c) < n
  .have HR:Hid (textOf s k (some (n,c))=none):=by unfold textOf;exact aGC hbad
   rw [aHn];by_cases h1:1000 < n
   .exact aiw
   .have h2:(s.size:Int) - ((k:Int)+(c:Int)) < (n:Int):=Aaa
    exact aiw
  .open avf in exact ahp
def Oc (o:Option (Nat×Nat)) (i:Int):Value:=
 match o with
 |none=> .iface 272 (.agg #[.iface 272 (.agg #[.iface 274 (.agg #[.int .i64 i])])])
 |some _=> .iface 272 (.agg #[.iface 274 (.agg #[.int .i64 i])])
def uj (t:Option (ByteArray×Nat)) (o:Option (Nat×Nat)) (i:Int):Value:=
 match t with
 |none=> .tuple #[.string ByteArray.empty,.int .i64 0,Oc o i]
 |some (x,b)=> .tuple #[.string x,.int .i64 b,.nilIface]
theorem amd (s:ByteArray) (i:Int) (w:World) (hs:s.size<=maxLen):Calls prog 222 #[.string s,.int .i64 i] w (dZ w (uj (textOf s i.toNat (iG s i)) (iG s i) i)):=by
 have HS:=Hq (λw1=>adv s i w1 hs);unfold maxLen at hs;cases hG:iG s i with
 |none=>
  rw [hG] at HS;go_in
  go_wp2_with (go_at_call 251;refine(HS _).mono ?_;rintro e w1 ⟨rfl,rfl⟩;simp only[rX])
  go_ret3
  exact⟨rfl,aGs _ _⟩
 |some p=>
  obtain⟨n,c⟩:=p;obtain⟨k,rfl,_,hn,hk⟩:=uM hG;rw [hG] at HS;by_cases hbad:1000 < n\/s.size - (k+c) < n
  .have HR:Hid (textOf s k (some (n,c))=none):=by unfold textOf;exact aGC hbad
   rw [aHn];by_cases h1:1000 < n
   .exact az0
   .have h2:(s.size:Int) - ((k:Int)+(c:Int)) < (n:Int):=Aaa
    exact az0
  .open avg in exact ahp
theorem Qc (s:ByteArray) (i:Int) (w:World) (hs:s.size<=maxLen) (hH:Handle w):Calls prog 198 #[.string s,.int .i64 i] w (dZ w (Ey (textOf s i.toNat (iG s i)))):=by
 have HN:=Hq (λw1=>amd s i w1 hs);have HH:=Hq hH;clear hH;cases hT:textOf s i.toNat (iG s i) with
 |none=>
  rw [hT] at HN;cases hG:iG s i with
  |none=>
   rw [hG] at HN;go_in
   go_wp2_with (first|(go_at_call 222;refine(HN _).mono ?_;rintro e w1 ⟨rfl,hb1⟩;simp only[uj,Oc])|(go_at_call 223;refine(acY _ _ (HH.below hb1)).mono ?_;rintro e w2 ⟨rfl,hb2⟩))
   exact abv
  |some p=>
   rw [hG] at HN;go_in
   go_wp2_with (first|(go_at_call 222;refine(HN _).mono ?_;rintro e w1 ⟨rfl,hb1⟩;simp only[uj,Oc])|(go_at_call 223;refine(Qv _ _ (HH.below hb1)).mono ?_;rintro e w2 ⟨rfl,hb2⟩))
   exact abv
 |some p=>
  obtain⟨x,b⟩:=p;rw [hT] at HN;go_in
  go_wp2_with (first|(go_at_call 222;refine(HN _).mono ?_;rintro e w1 ⟨rfl,hb1⟩;simp only[uj])|(go_at_call 223;refine(Qu _).mono ?_;rintro e w2 ⟨rfl,hb2⟩))
  exact abv
def al0 (o:Option (Nat×Nat)):Int:=match o with|none=>0|some (n,_)=>n
def afS (o:Option (Nat×Nat)) (i:Int):Int:=match o with|none=> -1|some (_,c)=>i+c
theorem FB (o:Option (Nat×Nat)) (i:Int):wG o i= .tuple #[.int .i64 (al0 o),.int .i64 (afS o i)]:=by cases o<;>rfl
def ZO (o:Option (ByteArray×Nat)):ByteArray:=match o with|none=>ByteArray.empty|some (t,_)=>t
def R4 (o:Option (ByteArray×Nat)):Int:=match o with|none=> -1|some (_,b)=>b
theorem Dp (o:Option (ByteArray×Nat)):Ey o= .tuple #[.string (ZO o),.int .i64 (R4 o)]:=by cases o<;>rfl
theorem Gj {s:ByteArray} (h:iG s i=some (n,c)):∃k:Nat,i=k/\k+c<=s.size/\0 < c/\n<=4000000000/\(mP n).toList=(s.extract k (k+c)).toList:=by
 obtain⟨k,rfl,hg,hn,hk⟩:=uM h;have hb:=Mth.get_bound _ _ _ _ hg;refine⟨k,rfl,hk,hb.2.1,hn,?_⟩;unfold mP;rw [aGC Aaa,aHn,ByteArray.toList_mk,aHW,Mth.get_was_put _ _ _ _ hg];congr 1;omega
theorem Zj {s:ByteArray} {i:Int} {t:ByteArray} {e:Nat} (h:textOf s i.toNat (iG s i)=some (t,e)):∃k:Nat,i=k/\k < e/\e<=s.size/\t.size<=1000/\(oF t).toList=(s.extract k e).toList:=by
 cases hG:iG s i with
 |none=>rw [hG] at h;simp[textOf] at h
 |some p=>
  obtain⟨n,c⟩:=p;obtain⟨k,rfl,hk,hc,hn,hput⟩:=Gj hG;rw [hG,aHn] at h;unfold textOf at h;simp only at h;split at h
  .cases h
  .rename_i hbad
   simp only[aHM,Prod.mk.injEq] at h;obtain⟨rfl,rfl⟩:=h;have hsz:(s.extract (k+c) (k+c+n)).size=n:=by rw [aH6];omega
   refine⟨k,rfl,Aaa,Aaa,Aaa,?_⟩;unfold oF;rw [aGC Aaa];unfold rP;rw [ByteArray.toList_mk,hsz]
   have e1:Mth.put n=(s.extract k (k+c)).toList:=by
    rw [<-hput];unfold mP;rw [aGC Aaa,aHn,ByteArray.toList_mk]
   rw [e1,aHW,aHK,aHW];have h1:k+c - k=c:=Aaa
   have h2:k+c+n - (k+c)=n:=Aaa
   have h3:k+c+n - k=c+n:=Aaa
   rw [h1,h2,h3,<-List.drop_drop,List.take_add]
open Mth
def vw (s:ByteArray) (i:Int):Int:=al0 (iG s i)
def kR (s:ByteArray) (i:Int):Int:=afS (iG s i) i
def j6 (s:ByteArray) (i:Int):ByteArray:=ZO (textOf s i.toNat (iG s i))
def jc (s:ByteArray) (i:Int):Int:=R4 (textOf s i.toNat (iG s i))
theorem lU {s:ByteArray} {i:Int} (h:0<=kR s i):0<=i/\i<=kR s i/\kR s i<=s.size/\(mP (vw s i)).data.toList=(s.data.toList.take (kR s i).toNat).drop i.toNat:=by
 unfold kR vw at *;cases hG:iG s i with
 |none=>rw [hG] at h;simp[afS] at h
 |some p=>
  obtain⟨n,c⟩:=p;obtain⟨k,rfl,hk,hc,hn,hput⟩:=Gj hG;simp only[afS,al0];refine⟨Aaa,Aaa,Aaa,?_⟩;rw [<-aG8,hput,aHW,List.drop_take];simp only[aHn];rfl
theorem iE {s:ByteArray} {i:Int} (h:0<=jc s i):0<=i/\i<=jc s i/\jc s i<=s.size/\(j6 s i).size<=1000/\(oF (j6 s i)).data.toList=(s.data.toList.take (jc s i).toNat).drop i.toNat:=by
 unfold jc j6 at *;cases hG:textOf s i.toNat (iG s i) with
 |none=>rw [hG] at h;simp[R4] at h
 |some p=>
  obtain⟨t,e⟩:=p;obtain⟨k,rfl,hk,hc,hn,hput⟩:=Zj hG;simp only[R4,ZO];refine⟨Aaa,Aaa,Aaa,hn,?_⟩;rw [<-aG8,hput,aHW,List.drop_take];simp only[aHn]
def yj (s:ByteArray):Int:=kR s (jc s (kR s (kR s (kR s (kR s 1)))))
def cand (s:ByteArray):Mg:=
 ⟨(s.data.toList.headD 0).toNat,vw s 1,vw s (kR s 1),vw s (kR s (kR s 1)),vw s (kR s (kR s (kR s 1))),j6 s (kR s (kR s (kR s (kR s 1)))),vw s (jc s (kR s (kR s (kR s (kR s 1)))))⟩
theorem nU (l:List UInt8) (i j:Nat) (h:i<=j):l.take i++(l.take j).drop i=l.take j:=by
 have h2:(l.take j).take i=l.take i:=by rw [aHP,aHb h]
 rw [<-h2,aGW]
theorem Fh {s:ByteArray} (hs:0 < s.size) (h:0<=yj s):yj s<=s.size/\(Av (cand s)).data.toList=s.data.toList.take (yj s).toNat:=by
 unfold yj at h;obtain⟨g5,l6,e6,q6⟩:=lU h;obtain⟨g4,l5,e5,_,q5⟩:=iE g5;obtain⟨g3,l4,e4,q4⟩:=lU g4;obtain⟨g2,l3,e3,q3⟩:=lU g3;obtain⟨g1,l2,e2,q2⟩:=lU g2;obtain⟨g0,l1,e1,q1⟩:=lU g1;refine⟨e6,?_⟩;unfold Av cand yj;simp only[ByteArray.data_append,aIe];rw [q1,q2,q3,q4,q5,q6]
 have q0:(kb ((s.data.toList.headD 0).toNat:Int)).data.toList=s.data.toList.take (1:Int).toNat:=by
  exact ajh
 rw [q0,nU _ _ _ Aaa,nU _ _ _ Aaa,nU _ _ _ Aaa,nU _ _ _ Aaa,nU _ _ _ Aaa,nU _ _ _ Aaa]
def mg0:Mg:=⟨0,0,0,0,0,ByteArray.empty,0⟩
def kN (s:ByteArray):Bool:=decide (0 < s.size)&&decide (yj s=s.size)&&cZ (cand s)
def nD (s:ByteArray):Mg:=if kN s=true then cand s else mg0
theorem Fz {s:ByteArray} (hs:0 < s.size):kN s=(decide (0<=yj s)&&decide (jU (cand s)=s)):=by
 rw [aHu];unfold kN;simp only[aGl,aGR];constructor
 .rintro⟨⟨_,h1⟩,h2⟩;have h0:0<=yj s:=Aaa
  refine⟨h0,?_⟩;rw [za h2];apply aHE
  apply Array.ext'
  rw [(Fh hs h0).2,h1,aHn,aHR (by rw [aW];exact aGh _)]
 .rintro⟨h0,h1⟩;obtain⟨hl,hb⟩:=Fh hs h0;cases hm:cZ (cand s) with
  |false=>
   rw [Cz hm] at h1;rw [<-h1] at hs;exact absurd hs Aae
  |true=>
   rw [za hm] at h1;refine⟨⟨hs,?_⟩,rfl⟩;rw [h1] at hb;have:=congrArg List.length hb;rw [aGG,aW] at this;omega
def Kz (s:ByteArray):Int:=kR s (jc s (kR s 1))
def Bz (s:ByteArray):ByteArray:=j6 s (Kz s)
def Nf (s:ByteArray):Int:=jc s (Kz s)
def opC (s:ByteArray):gW:=⟨(s.data.toList.headD 0).toNat,vw s 1,j6 s (kR s 1),vw s (jc s (kR s 1)),nD (Bz s)⟩
def rG (s:ByteArray):Bool:=decide ((Bz s).size=0)||kN (Bz s)
theorem afP:cZ mg0=false:=Aae
theorem KY {s:ByteArray} (h:s.size=0):s=ByteArray.empty:=eq_empty s h
theorem J7 {b:ByteArray} (h:b.size=0):nD b=mg0/\kN b=false:=by
 have ho:kN b=false:=by unfold kN;rw [aGi Aaa];rfl
 refine⟨?_,ho⟩;unfold nD;rw [ho,aGr Aac]
theorem Ya {s:ByteArray} (h:rG s=true):jU (nD (Bz s))=Bz s:=by
 by_cases h0:(Bz s).size=0
 .rw [(J7 h0).1,Cz afP,KY h0]
 .unfold rG at h;rw [aGi h0,Bool.false_or] at h;have h2:=Fz (s:=Bz s) Aaa;rw [h] at h2;unfold nD;rw [aGC h];have h3:=h2.symm;simp only[aGl,aGR] at h3;exact h3.2
theorem Ku {s:ByteArray} (hs:0 < s.size) (h:0<=Nf s) (hb:rG s=true):Nf s<=s.size/\(AO (opC s)).data.toList=s.data.toList.take (Nf s).toNat:=by
 have hq:=Ya hb;unfold Nf Bz at *;obtain⟨g3,l4,e4,_,q4⟩:=iE h;unfold Kz at g3 l4 e4 q4 hq h ⊢;obtain⟨g2,l3,e3,q3⟩:=lU g3;obtain⟨g1,l2,e2,_,q2⟩:=iE g2;obtain⟨g0,l1,e1,q1⟩:=lU g1;refine⟨e4,?_⟩;unfold AO opC Bz Kz;simp only[ByteArray.data_append,aIe];rw [hq,q1,q2,q3,q4]
 have q0:(kb ((s.data.toList.headD 0).toNat:Int)).data.toList=s.data.toList.take (1:Int).toNat:=by
  exact ajh
 rw [q0,nU _ _ _ Aaa,nU _ _ _ Aaa,nU _ _ _ Aaa,nU _ _ _ Aaa]
def op0:gW:=⟨0,0,ByteArray.empty,0,mg0⟩
def lH (s:ByteArray):Bool:=decide (0 < s.size)&&decide (Nf s=s.size)&&rG s&&cK (opC s)
def getOp (s:ByteArray):gW:=if lH s=true then opC s else op0
theorem Yl {s:ByteArray} (hs:0 < s.size):lH s=(decide (0<=Nf s)&&rG s&&decide (wP (opC s)=s)):=by
 rw [aHu];unfold lH;simp only[aGl,aGR];constructor
 .rintro⟨⟨⟨_,h1⟩,hb⟩,h2⟩;have h0:0<=Nf s:=Aaa
  refine⟨⟨h0,hb⟩,?_⟩;rw [CB h2];apply aHE
  apply Array.ext'
  rw [(Ku hs h0 hb).2,h1,aHn,aHR (by rw [aW];exact aGh _)]
 .rintro⟨⟨h0,hb⟩,h1⟩;obtain⟨hl,hq⟩:=Ku hs h0 hb;cases hm:cK (opC s) with
  |false=>
   rw [QU hm] at h1;rw [<-h1] at hs;exact absurd hs Aae
  |true=>
   rw [CB hm] at h1;refine⟨⟨⟨hs,?_⟩,hb⟩,rfl⟩;rw [h1] at hq;have:=congrArg List.length hq;rw [aGG,aW] at this;omega
theorem tX (i:Int):(j6 s i).size<=1000:=by
 exact aiA
theorem adx:(nD s).k.size<=1000:=by
 unfold nD;split
 .exact tX _ _
 .decide
def gT (s:ByteArray):Nat->Int
 |0=>1
 |j+1=>kR s (gT s j)
def numsL (s:ByteArray) (j:Nat):List Value:=(List.range j).map λi=> .int .i64 (vw s (gT s i))
theorem UW (j:Nat):numsL s (j+1)=numsL s j++[.int .i64 (vw s (gT s j))]:=by unfold numsL;rw [aIn,List.map_append];rfl
theorem acS:(prog.info? 3).map (λi=>(i.zero,i.size,i.bytes))=some (some (.int .i64 0),1,8):=Aab
theorem own_below {w w':World} {base size n:Nat} {e:TypeId} {v:Value} {xs:List Value} (h:w.ownsRow base e size v n xs) (hb:aI w w'):w'.ownsRow base e size v n xs:=by
 refine h.kept (row:=none) ⟨hb.os,hb.tape,hb.output,hb.size,λk hk _=>hb.block k hk⟩ ?_;cases hv:v.ownBlock with
 |none=>exact .inl rfl
 |some k=>right;simp
theorem NI (i:Int) (hs:s.size<=maxLen) (w:World):Calls prog 102 #[.string s,.int .i64 i] w (dZ w (.tuple #[.int .i64 (vw s i),.int .i64 (kR s i)])):=by
 have h:=Dl s i w hs;rw [FB] at h;exact h
theorem NK (i:Int) (hs:s.size<=maxLen) (w:World):Calls prog 53 #[.string s,.int .i64 i] w (dZ w (.tuple #[.string (j6 s i),.int .i64 (jc s i)])):=by
 have h:=Rs s i w hs;rw [Dp] at h;exact h
theorem afK (hs:s.size<=maxLen) (w:World):Calls prog 140 #[.string s,.int .i64 1,.int .i64 4] w λe w'=>
 ∃g cap,e= .returned (.tuple #[.slice (some ⟨g,0,none⟩) 4 cap,.int .i64 (gT s 4)])/\g < w'.heap.size/\(w'.cell? ⟨g,0,none⟩=some (.int .i64 (vw s (gT s 0)))/\w'.cell? ⟨g,1,none⟩=some (.int .i64 (vw s (gT s 1)))/\w'.cell? ⟨g,2,none⟩=some (.int .i64 (vw s (gT s 2)))/\w'.cell? ⟨g,3,none⟩=some (.int .i64 (vw s (gT s 3))))/\aI w w':=by
 obtain⟨i0,hi,hz0,hz1,hz2⟩:=aGV acS;have HG:=Hq (λi w1=>NI s i hs w1);clear hs;go_in
 go_wp2_with fail;go_loopw [8,9,10] (λv a k wr=>∃j,j<=4/\k= .int .i64 (j:Nat)/\a= .int .i64 (gT s j)/\wr.ownsRow w.heap.size 3 1 v j (numsL s j)/\aI w wr) (λ_ _ k _=>4 - (intOf k).toNat)
 case atStart=>exact⟨0,Aaa,rfl,rfl,aGY _ #[] 0 (aGh _) Aae rfl,(aGs _ _).alloc (aGh _) _⟩
 case round=>
  obtain⟨j,hj,rfl,rfl,hown,hbel⟩:=hrel;by_cases hlt:j < 4
  .have HN:=Hq (UW s j);have HP:=Hq (show gT s (j+1)=kR s (gT s j) from rfl);have hg:=λw1=>HG (gT s j) w1
   generalize vw s (gT s j)=x at *;generalize kR s (gT s j)=a' at *;generalize gT s j=a at *;have Hw:=Hq hg;clear hg;go_wp2_with fail;refine(Hw _).mono ?_;rintro e w5 ⟨rfl,hb5⟩;have hown5:=own_below hown hb5;have ab8:=hbel.trans (hb5.mono hbel.size);clear hb5 hown hbel;go_wp2_with (at_builtin;refine aHg _ rfl _ _ 22 rfl w.heap.size 3 i0 (.int .i64 0) 1 8 underlying22 hi hz0 hz1 hz2 rfl Aae _ _ _ rfl (hown5.alloc _) ⟨w5.heap.size,0,none⟩ 1 1 [.int .i64 x] rfl rfl ?c1 ?c2 ?c3 ?c4 ?c5 ?_)
   case c1=>exact cell_one_new _ _ _
   case c2=>intro u hu;simp at hu;subst hu;rfl
   case c3=>unfold maxLen;omega
   case c4=>omega
   case c5=>have:=ab8.size;simp;omega
   intro v' w6 hown' hgrow _;have PO:=below_append ab8 hown5 hgrow;rw [<-ah HN] at hown';clear hgrow hown5 ab8 HN;go_wp2_with fail;go_roundw
   case rel=>exact⟨j+1,Aaa,Aaf,Aaw,hown',PO⟩
   case measure=>simp[intOf];omega
  .obtain rfl:j=4:=Aaa
   obtain⟨g,cap,rfl,_,_⟩:=World.ownsRow.form hown Aaa;have hc:=Hq (hown.cells (g:=g) rfl);have hlt:=(hown.lt g rfl).2;have HB:=Hq hbel;clear hown hbel;go_wp2_with fail;exact aGn (v:= .tuple #[.slice (some ⟨g,0,none⟩) 4 cap,.int .i64 (gT s 4)]) (by simp[results,results140,go_sem]) rfl ⟨g,cap,rfl,hlt,⟨hc 0 _ rfl,hc 1 _ rfl,hc 2 _ rfl,hc 3 _ rfl⟩,HB⟩
def DZ (s:ByteArray):Value:= .tuple #[oz (nD s),.bool (kN s)]
theorem Er {s:ByteArray} (h:kN s=false):DZ s= .tuple #[.agg (bX 0 0 0 0 0 ⟨#[]⟩ 0),.bool false]:=by
 unfold DZ nD;rw [h,aGr Aac];rfl
theorem Mq {s:ByteArray} (h:0 < s.size):s.data.toList.headD 0=s[0]:=by
 have hl:=aW s;rw [List.headD_eq_head?_getD,List.head?_eq_getElem?,aGo Aaa];rfl
theorem yP (i:Int) (hs:s.size<=maxLen) (w:World) (hH:Handle w):Calls prog 254 #[.string s,.int .i64 i] w (dZ w (.tuple #[.int .i64 (vw s i),.int .i64 (kR s i)])):=by
 have h:=Qb s i w hs hH;rw [FB] at h;exact h
theorem MQ (i:Int) (hs:s.size<=maxLen) (w:World) (hH:Handle w):Calls prog 198 #[.string s,.int .i64 i] w (dZ w (.tuple #[.string (j6 s i),.int .i64 (jc s i)])):=by
 have h:=Qc s i w hs hH;rw [Dp] at h;exact h
theorem FM (w:World):Calls prog 256 #[.string ByteArray.empty] w (dZ w (.tuple #[.agg (bX 0 0 0 0 0 ⟨#[]⟩ 0),.bool false])):=by
 go_in
 go_wp2_with fail;exact aGn (v:= .tuple #[.agg (bX 0 0 0 0 0 ⟨#[]⟩ 0),.bool false]) (by simp[results,results256,go_sem]) rfl ⟨rfl,ay w _⟩
theorem D8 (hs:s.size<=maxLen) (h0:0 < s.size) (w:World) (hH:Handle w):Calls prog 256 #[.string s] w (dZ w (DZ s)):=by
 have Dz:=Hq (λw1 h=>yP s (gT s 0) hs w1 h);have HG2:=Hq (λw1 h=>yP s (gT s 1) hs w1 h);have OA:=Hq (λw1 h=>yP s (gT s 2) hs w1 h);have HG4:=Hq (λw1 h=>yP s (gT s 3) hs w1 h);have vJ:=Hq (λw1 h=>MQ s (gT s 4) hs w1 h);have Z5:=Hq (λw1 h=>yP s (jc s (gT s 4)) hs w1 h);have e1:kR s (gT s 0)=gT s 1:=rfl;have e2:kR s (gT s 1)=gT s 2:=rfl;have e3:kR s (gT s 2)=gT s 3:=rfl;have e4:kR s (gT s 3)=gT s 4:=rfl;have ez:gT s 0=1:=rfl;rw [e1] at Dz;rw [e2] at HG2;rw [e3] at OA;rw [e4] at HG4;have HP:=Hq (λw1=>Ki (cand s) w1);have HO:=Hq (show kN s=(decide (yj s=s.size)&&cZ (cand s)) by unfold kN;rw [aGk h0];rfl);open ari in exact ayM
theorem FJ (hs:s.size<=maxLen) (w:World) (hH:Handle w):Calls prog 256 #[.string s] w (dZ w (DZ s)):=by
 by_cases h0:s.size=0
 .obtain rfl:=eq_empty s h0;rw [Er (show kN ByteArray.empty=false by unfold kN;simp)];exact FM w
 .exact D8 s hs Aaa w hH
end Go.Proofs.YtohmklmkjmlpjaaGreatDoor
