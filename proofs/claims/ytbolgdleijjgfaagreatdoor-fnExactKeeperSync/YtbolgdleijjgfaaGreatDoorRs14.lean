/- Parts. -/
import Derived.Test.YtbolgdleijjgfaaGreatDoorRs9
import Derived.Test.YtbolgdleijjgfaaGreatDoorRs10
namespace Go.Proofs.YtbolgdleijjgfaaGreatDoor
open Go.Proofs.Tryz
set_option maxHeartbeats 4000000
set_option maxRecDepth 100000
open Go.RowKit
open Mth
variable (no:Int) (k:ByteArray) (n:Int) (m:Mg) (w:World) {s:ByteArray} {g:Nat} {t:TypeId}
theorem Below.setNew {B i:Nat} {w w':World} {v:Value} (h:Below B w w') (hg:B<=g):Below B w (w'.setCell ⟨g,i,none⟩ v):=
 ⟨h.os,h.tape,h.output,by simpa [World.setCell] using h.size,λk hk=>by
  have hkg:k≠g:=Aaa
  rw [aE9 _ _ _ _ hkg]
  exact h.block k hk⟩
theorem uZ {w:World} {cs:Array Value} (h:w.heap[g]?=some (.cells cs t (0,0))) (i:Nat):w.frozen? ⟨g,i,none⟩=false:=by unfold World.frozen?;rw [h];simp
theorem lD (w:World) (a b:Obj):((w.alloc a).alloc b).heap[w.heap.size]?=some a/\((w.alloc a).alloc b).heap[w.heap.size+1]?=some b:=by
 have h1:=aI (aEK w a) (au (w.alloc a) b);have h2:=aEK (w.alloc a) b;rw [show(w.alloc a).heap.size=w.heap.size+1 by simp] at h2;exact⟨h1,h2⟩
theorem jF (w:World) (a b:Obj):Below w.heap.size w ((w.alloc a).alloc b):=(au w a).alloc Aac b
theorem Eo {w:World} {v0 v1 v2 v3 v4 v5 v6 v7 v8 v9 v10:Value} (h:w.heap[g]?=some (.cells #[v0,v1,v2,v3,v4,v5,v6,v7,v8,v9,v10] t (0,0))):
 w.cell? ⟨g,0,none⟩=some v0/\w.cell? ⟨g,1,none⟩=some v1/\w.cell? ⟨g,2,none⟩=some v2/\w.cell? ⟨g,3,none⟩=some v3/\w.cell? ⟨g,4,none⟩=some v4/\w.cell? ⟨g,5,none⟩=some v5/\w.cell? ⟨g,6,none⟩=some v6/\w.cell? ⟨g,7,none⟩=some v7/\w.cell? ⟨g,8,none⟩=some v8/\w.cell? ⟨g,9,none⟩=some v9/\w.cell? ⟨g,10,none⟩=some v10:=by
 exact ahY
theorem IW:Calls prog 197 #[jP ⟨0,no,k,n,m⟩] w (dM w (.bool (bH ⟨0,no,k,n,m⟩))):=by
 obtain⟨mK,mF,mT,mI,mL,mk,mN⟩:=m;obtain⟨R,hR⟩:∃R,bH ⟨0,no,k,n,⟨mK,mF,mT,mI,mL,mk,mN⟩⟩=R:=⟨_,rfl⟩;rw [hR];have HR:=Hq hR;clear hR;cases hk:keyOk k.data.toList
 .exact ake
 .have HK:=Hq (λw1=>iq k true w1 hk);cases hn:fH n
  .exact akl
  .open ana in exact ajW
theorem IY:Calls prog 197 #[jP ⟨3,no,k,n,m⟩] w (dM w (.bool (bH ⟨3,no,k,n,m⟩))):=by
 obtain⟨mK,mF,mT,mI,mL,mk,mN⟩:=m;obtain⟨R,hR⟩:∃R,bH ⟨3,no,k,n,⟨mK,mF,mT,mI,mL,mk,mN⟩⟩=R:=⟨_,rfl⟩;rw [hR];have HR:=Hq hR;clear hR;cases hk:keyOk k.data.toList
 .exact ake
 .have HK:=Hq (λw1=>iq k true w1 hk);cases hn:fH n
  .exact akl
  .open am9 in exact ajW
theorem IL:Calls prog 197 #[jP ⟨4,no,k,n,m⟩] w (dM w (.bool (bH ⟨4,no,k,n,m⟩))):=by
 obtain⟨mK,mF,mT,mI,mL,mk,mN⟩:=m;obtain⟨R,hR⟩:∃R,bH ⟨4,no,k,n,⟨mK,mF,mT,mI,mL,mk,mN⟩⟩=R:=⟨_,rfl⟩;rw [hR];have HR:=Hq hR;clear hR;cases hk:keyOk k.data.toList
 .exact ake
 .have HK:=Hq (λw1=>iq k true w1 hk);cases hn:fH n
  .exact akl
  .open am8 in exact ajW
theorem FI:Calls prog 197 #[jP ⟨1,no,k,n,m⟩] w (dM w (.bool (bH ⟨1,no,k,n,m⟩))):=by
 obtain⟨mK,mF,mT,mI,mL,mk,mN⟩:=m;obtain⟨R,hR⟩:∃R,bH ⟨1,no,k,n,⟨mK,mF,mT,mI,mL,mk,mN⟩⟩=R:=⟨_,rfl⟩;rw [hR];have HR:=Hq hR;clear hR;cases ho:fH no
 .have HO:=Hq (λw1=>aO no false w1 ho);cases hk:keyOk k.data.toList
  .have HK:=Hq (λw1=>iq k false w1 hk);cases hn:fH n
   .have HN:=Hq (λw1=>aO n false w1 hn);have HP:=Hq (show R=(false&&false&&false&&lU ⟨mK,mF,mT,mI,mL,mk,mN⟩) by rw [<-ah HR];simp[bH,ho,hk,hn]);exact SS
   .have HN:=Hq (λw1=>aO n true w1 hn);have HP:=Hq (show R=(false&&false&&true&&lU ⟨mK,mF,mT,mI,mL,mk,mN⟩) by rw [<-ah HR];simp[bH,ho,hk,hn]);exact SS
  .have HK:=Hq (λw1=>iq k true w1 hk);cases hn:fH n
   .have HN:=Hq (λw1=>aO n false w1 hn);have HP:=Hq (show R=(false&&true&&false&&lU ⟨mK,mF,mT,mI,mL,mk,mN⟩) by rw [<-ah HR];simp[bH,ho,hk,hn]);exact SS
   .have HN:=Hq (λw1=>aO n true w1 hn);have HP:=Hq (show R=(false&&true&&true&&lU ⟨mK,mF,mT,mI,mL,mk,mN⟩) by rw [<-ah HR];simp[bH,ho,hk,hn]);exact SS
 .have HO:=Hq (λw1=>aO no true w1 ho);cases hk:keyOk k.data.toList
  .have HK:=Hq (λw1=>iq k false w1 hk);cases hn:fH n
   .have HN:=Hq (λw1=>aO n false w1 hn);have HP:=Hq (show R=(true&&false&&false&&lU ⟨mK,mF,mT,mI,mL,mk,mN⟩) by rw [<-ah HR];simp[bH,ho,hk,hn]);exact SS
   .have HN:=Hq (λw1=>aO n true w1 hn);have HP:=Hq (show R=(true&&false&&true&&lU ⟨mK,mF,mT,mI,mL,mk,mN⟩) by rw [<-ah HR];simp[bH,ho,hk,hn]);exact SS
  .have HK:=Hq (λw1=>iq k true w1 hk);cases hn:fH n
   .have HN:=Hq (λw1=>aO n false w1 hn);have HP:=Hq (show R=(true&&true&&false&&lU ⟨mK,mF,mT,mI,mL,mk,mN⟩) by rw [<-ah HR];simp[bH,ho,hk,hn]);exact SS
   .have HN:=Hq (λw1=>aO n true w1 hn);have HP:=Hq (show R=(true&&true&&true&&lU ⟨mK,mF,mT,mI,mL,mk,mN⟩) by rw [<-ah HR];simp[bH,ho,hk,hn]);open asa in exact agC
theorem Ck:Calls prog 197 #[jP ⟨2,no,k,n,m⟩] w (dM w (.bool (bH ⟨2,no,k,n,m⟩))):=by
 obtain⟨mK,mF,mT,mI,mL,mk,mN⟩:=m;obtain⟨R,hR⟩:∃R,bH ⟨2,no,k,n,⟨mK,mF,mT,mI,mL,mk,mN⟩⟩=R:=⟨_,rfl⟩;rw [hR];have HR:=Hq hR;clear hR;cases ho:fH no
 .have HO:=Hq (λw1=>aO no false w1 ho);have HP:=Hq (show R=(decide (k.toList=[])&&decide (n=0)&&false&&lU ⟨mK,mF,mT,mI,mL,mk,mN⟩) by rw [<-ah HR];simp[bH,ho]);clear HR;clear ho;go_in
  go_wp2_with (first|(go_at_call_of 170 no;refine(HO _).mono ?_;rintro e w1 ⟨rfl,rfl⟩))
  go_ret;exact⟨aF (by rw [ah HP];simp),by first|exact jF w _ _|exact Below.setNew (jF w _ _) Aaa⟩
 .have HO:=Hq (λw1=>aO no true w1 ho);have HP:=Hq (show R=(decide (k.toList=[])&&decide (n=0)&&true&&lU ⟨mK,mF,mT,mI,mL,mk,mN⟩) by rw [<-ah HR];simp[bH,ho]);clear HR;clear ho;go_in
  go_upto_region 23 with(first|(go_at_call_of 170 no;refine(HO _).mono ?_;rintro e w1 ⟨rfl,rfl⟩))
  open atS in exact VR
theorem IX:Calls prog 197 #[jP ⟨5,no,k,n,m⟩] w (dM w (.bool (bH ⟨5,no,k,n,m⟩))):=by
 open asL in exact agI
theorem IV:Calls prog 197 #[jP ⟨6,no,k,n,m⟩] w (dM w (.bool (bH ⟨6,no,k,n,m⟩))):=by
 have HM:=Hq (λw1=>J7 m w1);open at7 in exact agZ
theorem IU (K no:Int) (k:ByteArray) (n:Int) (m:Mg) (w:World) (h0:¬K=0) (h1:¬K=1) (h2:¬K=2) (h3:¬K=3) (h4:¬K=4) (h5:¬K=5) (h6:¬K=6):Calls prog 197 #[jP ⟨K,no,k,n,m⟩] w (dM w (.bool (bH ⟨K,no,k,n,m⟩))):=by
 have HP:=Hq (show bH ⟨K,no,k,n,m⟩=false by simp[bH,h0,h1,h2,h3,h4,h5,h6]);obtain⟨mK,mF,mT,mI,mL,mk,mN⟩:=m;go_in
 go_wp2_with fail;go_ret;exact⟨aF HP.symm,jF w _ _⟩
theorem P8 (o:gJ) (w:World):Calls prog 197 #[jP o] w (dM w (.bool (bH o))):=by
 obtain⟨K,no,k,n,m⟩:=o;by_cases h0:K=0
 .subst h0;exact IW no k n m w
 by_cases h1:K=1
 .subst h1;exact FI no k n m w
 by_cases h2:K=2
 .subst h2;exact Ck no k n m w
 by_cases h3:K=3
 .subst h3;exact IY no k n m w
 by_cases h4:K=4
 .subst h4;exact IL no k n m w
 by_cases h5:K=5
 .subst h5;exact IX no k n m w
 by_cases h6:K=6
 .subst h6;exact IV no k n m w
 exact IU K no k n m w h0 h1 h2 h3 h4 h5 h6
def vB (s:ByteArray) (i:Int):Int:=alj (ig s i)
def jX (s:ByteArray) (i:Int):Int:=afH (ig s i) i
def j6 (s:ByteArray) (i:Int):ByteArray:=ZN (textOf s i.toNat (ig s i))
def iZ (s:ByteArray) (i:Int):Int:=Rz (textOf s i.toNat (ig s i))
theorem lN {s:ByteArray} {i:Int} (h:0<=jX s i):0<=i/\i<=jX s i/\jX s i<=s.size/\(mq (vB s i)).data.toList=(s.data.toList.take (jX s i).toNat).drop i.toNat:=by
 unfold jX vB at *;cases hG:ig s i with
 |none=>rw [hG] at h;simp[afH] at h
 |some p=>
  obtain⟨n,c⟩:=p;obtain⟨k,rfl,hk,hc,hn,hput⟩:=Gi hG;simp only[afH,alj];refine⟨Aaa,Aaa,Aaa,?_⟩;rw [<-aFB,hput,aGj,List.drop_take];simp only[aFS];rfl
theorem iJ {s:ByteArray} {i:Int} (h:0<=iZ s i):0<=i/\i<=iZ s i/\iZ s i<=s.size/\(j6 s i).size<=1000/\(oN (j6 s i)).data.toList=(s.data.toList.take (iZ s i).toNat).drop i.toNat:=by
 unfold iZ j6 at *;cases hG:textOf s i.toNat (ig s i) with
 |none=>rw [hG] at h;simp[Rz] at h
 |some p=>
  obtain⟨t,e⟩:=p;obtain⟨k,rfl,hk,hc,hn,hput⟩:=Zh hG;simp only[Rz,ZN];refine⟨Aaa,Aaa,Aaa,hn,?_⟩;rw [<-aFB,hput,aGj,List.drop_take];simp only[aFS]
def yC (s:ByteArray):Int:=jX s (iZ s (jX s (jX s (jX s (jX s 1)))))
def cand (s:ByteArray):Mg:=
 ⟨(s.data.toList.headD 0).toNat,vB s 1,vB s (jX s 1),vB s (jX s (jX s 1)),vB s (jX s (jX s (jX s 1))),j6 s (jX s (jX s (jX s (jX s 1)))),vB s (iZ s (jX s (jX s (jX s (jX s 1)))))⟩
theorem nP (l:List UInt8) (i j:Nat) (h:i<=j):l.take i++(l.take j).drop i=l.take j:=by
 have h2:(l.take j).take i=l.take i:=by rw [aGB,aFU h]
 rw [<-h2,aFE]
theorem E8 (hs:0 < s.size) (h:0<=yC s):yC s<=s.size/\(AV (cand s)).data.toList=s.data.toList.take (yC s).toNat:=by
 unfold yC at h;obtain⟨g5,l6,e6,q6⟩:=lN h;obtain⟨g4,l5,e5,_,q5⟩:=iJ g5;obtain⟨g3,l4,e4,q4⟩:=lN g4;obtain⟨g2,l3,e3,q3⟩:=lN g3;obtain⟨g1,l2,e2,q2⟩:=lN g2;obtain⟨g0,l1,e1,q1⟩:=lN g1;refine⟨e6,?_⟩;unfold AV cand yC;simp only[ByteArray.data_append,aGy];rw [q1,q2,q3,q4,q5,q6]
 have q0:(kb ((s.data.toList.headD 0).toNat:Int)).data.toList=s.data.toList.take (1:Int).toNat:=by
  exact aiB
 rw [q0,nP _ _ _ Aaa,nP _ _ _ Aaa,nP _ _ _ Aaa,nP _ _ _ Aaa,nP _ _ _ Aaa,nP _ _ _ Aaa]
def mg0:Mg:=⟨0,0,0,0,0,ByteArray.empty,0⟩
def jV (s:ByteArray):Bool:=decide (0 < s.size)&&decide (yC s=s.size)&&bV (cand s)
def mY (s:ByteArray):Mg:=if jV s=true then cand s else mg0
theorem Fu (hs:0 < s.size):jV s=(decide (0<=yC s)&&decide (jL (cand s)=s)):=by
 rw [aF2];unfold jV;simp only[aES,aFo];constructor
 .rintro⟨⟨_,h1⟩,h2⟩;have h0:0<=yC s:=Aaa
  refine⟨h0,?_⟩;rw [zi h2];apply aF3
  apply Array.ext'
  rw [(E8 hs h0).2,h1,aFS,aGh (by rw [aZ];exact aEM _)]
 .rintro⟨h0,h1⟩;obtain⟨hl,hb⟩:=E8 hs h0;cases hm:bV (cand s) with
  |false=>
   rw [Cw hm] at h1;rw [<-h1] at hs;exact absurd hs Aae
  |true=>
   rw [zi hm] at h1;refine⟨⟨hs,?_⟩,rfl⟩;rw [h1] at hb;have:=congrArg List.length hb;rw [aFf,aZ] at this;omega
def Kq (s:ByteArray):Int:=jX s (iZ s (jX s 1))
def BH (s:ByteArray):ByteArray:=j6 s (Kq s)
def MQ (s:ByteArray):Int:=iZ s (Kq s)
def opC (s:ByteArray):gJ:=⟨(s.data.toList.headD 0).toNat,vB s 1,j6 s (jX s 1),vB s (iZ s (jX s 1)),mY (BH s)⟩
def rH (s:ByteArray):Bool:=decide ((BH s).size=0)||jV (BH s)
theorem afD:bV mg0=false:=Aae
theorem KN (h:s.size=0):s=ByteArray.empty:=eq_empty s h
theorem JZ {b:ByteArray} (h:b.size=0):mY b=mg0/\jV b=false:=by
 have ho:jV b=false:=by unfold jV;rw [aEN Aaa];rfl
 refine⟨?_,ho⟩;unfold mY;rw [ho,aEX Aac]
theorem X9 (h:rH s=true):jL (mY (BH s))=BH s:=by
 by_cases h0:(BH s).size=0
 .rw [(JZ h0).1,Cw afD,KN h0]
 .unfold rH at h;rw [aEN h0,Bool.false_or] at h;have h2:=Fu (s:=BH s) Aaa;rw [h] at h2;unfold mY;rw [aE7 h];have h3:=h2.symm;simp only[aES,aFo] at h3;exact h3.2
theorem Kk (hs:0 < s.size) (h:0<=MQ s) (hb:rH s=true):MQ s<=s.size/\(Bc (opC s)).data.toList=s.data.toList.take (MQ s).toNat:=by
 have hq:=X9 hb;unfold MQ BH at *;obtain⟨g3,l4,e4,_,q4⟩:=iJ h;unfold Kq at g3 l4 e4 q4 hq h ⊢;obtain⟨g2,l3,e3,q3⟩:=lN g3;obtain⟨g1,l2,e2,_,q2⟩:=iJ g2;obtain⟨g0,l1,e1,q1⟩:=lN g1;refine⟨e4,?_⟩;unfold Bc opC BH Kq;simp only[ByteArray.data_append,aGy];rw [hq,q1,q2,q3,q4]
 have q0:(kb ((s.data.toList.headD 0).toNat:Int)).data.toList=s.data.toList.take (1:Int).toNat:=by
  exact aiB
 rw [q0,nP _ _ _ Aaa,nP _ _ _ Aaa,nP _ _ _ Aaa,nP _ _ _ Aaa]
def op0:gJ:=⟨0,0,ByteArray.empty,0,mg0⟩
def kW (s:ByteArray):Bool:=decide (0 < s.size)&&decide (MQ s=s.size)&&rH s&&bH (opC s)
def getOp (s:ByteArray):gJ:=if kW s=true then opC s else op0
theorem Yl (hs:0 < s.size):kW s=(decide (0<=MQ s)&&rH s&&decide (wP (opC s)=s)):=by
 rw [aF2];unfold kW;simp only[aES,aFo];constructor
 .rintro⟨⟨⟨_,h1⟩,hb⟩,h2⟩;have h0:0<=MQ s:=Aaa
  refine⟨⟨h0,hb⟩,?_⟩;rw [Cz h2];apply aF3
  apply Array.ext'
  rw [(Kk hs h0 hb).2,h1,aFS,aGh (by rw [aZ];exact aEM _)]
 .rintro⟨⟨h0,hb⟩,h1⟩;obtain⟨hl,hq⟩:=Kk hs h0 hb;cases hm:bH (opC s) with
  |false=>
   rw [QI hm] at h1;rw [<-h1] at hs;exact absurd hs Aae
  |true=>
   rw [Cz hm] at h1;refine⟨⟨⟨hs,?_⟩,hb⟩,rfl⟩;rw [h1] at hq;have:=congrArg List.length hq;rw [aFf,aZ] at this;omega
theorem tV (s:ByteArray) (i:Int):(j6 s i).size<=1000:=by
 exact ahT
theorem ac8 (s:ByteArray):(mY s).k.size<=1000:=by
 unfold mY;split
 .exact tV _ _
 .decide
theorem YA (o:gJ) (w:World):Calls prog 236 #[jP o] w (dM w (.bool (bH o))):=by
 have HO:=Hq (λw1=>P8 o w1);generalize bH o=r at *;obtain⟨K,no,k,n,⟨mK,mF,mT,mI,mL,mk,mN⟩⟩:=o;go_in
 exact ahZ
def gG (s:ByteArray):Nat->Int
 |0=>1
 |j+1=>jX s (gG s j)
def numsL (s:ByteArray) (j:Nat):List Value:=(List.range j).map λi=> .int .i64 (vB s (gG s i))
theorem Uv (s:ByteArray) (j:Nat):numsL s (j+1)=numsL s j++[.int .i64 (vB s (gG s j))]:=by unfold numsL;rw [aGQ,List.map_append];rfl
theorem acv:(prog.info? 3).map (λi=>(i.zero,i.size,i.bytes))=some (some (.int .i64 0),1,8):=Aab
theorem own_below {w w':World} {base size n:Nat} {e:TypeId} {v:Value} {xs:List Value} (h:w.ownsRow base e size v n xs) (hb:aH w w'):w'.ownsRow base e size v n xs:=by
 refine h.kept (row:=none) ⟨hb.os,hb.tape,hb.output,hb.size,λk hk _=>hb.block k hk⟩ ?_;cases hv:v.ownBlock with
 |none=>exact .inl rfl
 |some k=>right;simp
theorem Ns (s:ByteArray) (i:Int) (hs:s.size<=maxLen) (w:World):Calls prog 123 #[.string s,.int .i64 i] w (dM w (.tuple #[.int .i64 (vB s i),.int .i64 (jX s i)])):=by
 have h:=Dq s i w hs;rw [Fv] at h;exact h
theorem Nu (s:ByteArray) (i:Int) (hs:s.size<=maxLen) (w:World):Calls prog 94 #[.string s,.int .i64 i] w (dM w (.tuple #[.string (j6 s i),.int .i64 (iZ s i)])):=by
 have h:=Rj s i w hs;rw [Dt] at h;exact h
theorem afy (s:ByteArray) (hs:s.size<=maxLen) (w:World):Calls prog 148 #[.string s,.int .i64 1,.int .i64 4] w λe w'=>
 ∃g cap,e= .returned (.tuple #[.slice (some ⟨g,0,none⟩) 4 cap,.int .i64 (gG s 4)])/\g < w'.heap.size/\(w'.cell? ⟨g,0,none⟩=some (.int .i64 (vB s (gG s 0)))/\w'.cell? ⟨g,1,none⟩=some (.int .i64 (vB s (gG s 1)))/\w'.cell? ⟨g,2,none⟩=some (.int .i64 (vB s (gG s 2)))/\w'.cell? ⟨g,3,none⟩=some (.int .i64 (vB s (gG s 3))))/\aH w w':=by
 obtain⟨i0,hi,hz0,hz1,hz2⟩:=aFm acv;have HG:=Hq (λi w1=>Ns s i hs w1);clear hs;go_in
 go_wp2_with fail;go_loopw [8,9,10] (λv a k wr=>∃j,j<=4/\k= .int .i64 (j:Nat)/\a= .int .i64 (gG s j)/\wr.ownsRow w.heap.size 3 1 v j (numsL s j)/\aH w wr) (λ_ _ k _=>4 - (intOf k).toNat)
 case atStart=>exact⟨0,Aaa,rfl,rfl,aFw _ #[] 0 (aEM _) Aae rfl,(aEY _ _).alloc (aEM _) _⟩
 case round=>
  obtain⟨j,hj,rfl,rfl,hown,hbel⟩:=hrel;by_cases hlt:j < 4
  .have HN:=Hq (Uv s j);have HP:=Hq (show gG s (j+1)=jX s (gG s j) from rfl);have hg:=λw1=>HG (gG s j) w1
   generalize vB s (gG s j)=x at *;generalize jX s (gG s j)=a' at *;generalize gG s j=a at *;have Hw:=Hq hg;clear hg;go_wp2_with fail;refine(Hw _).mono ?_;rintro e w5 ⟨rfl,hb5⟩;have hown5:=own_below hown hb5;have abU:=hbel.trans (hb5.mono hbel.size);clear hb5 hown hbel;go_wp2_with (at_builtin;refine aFG _ rfl _ _ 22 rfl w.heap.size 3 i0 (.int .i64 0) 1 8 underlying22 hi hz0 hz1 hz2 rfl Aae _ _ _ rfl (hown5.alloc _) ⟨w5.heap.size,0,none⟩ 1 1 [.int .i64 x] rfl rfl ?c1 ?c2 ?c3 ?c4 ?c5 ?_)
   case c1=>exact cell_one_new _ _ _
   case c2=>intro u hu;simp at hu;subst hu;rfl
   case c3=>unfold maxLen;omega
   case c4=>omega
   case c5=>have:=abU.size;simp;omega
   intro v' w6 hown' hgrow _;have Pw:=below_append abU hown5 hgrow;rw [<-ah HN] at hown';clear hgrow hown5 abU HN;go_wp2_with fail;go_roundw
   case rel=>exact⟨j+1,Aaa,Aaf,Aav,hown',Pw⟩
   case measure=>simp[intOf];omega
  .obtain rfl:j=4:=Aaa
   obtain⟨g,cap,rfl,_,_⟩:=World.ownsRow.form hown Aaa;have hc:=Hq (hown.cells (g:=g) rfl);have hlt:=(hown.lt g rfl).2;have HB:=Hq hbel;clear hown hbel;go_wp2_with fail;exact aET (v:= .tuple #[.slice (some ⟨g,0,none⟩) 4 cap,.int .i64 (gG s 4)]) (by simp[results,results148,go_sem]) rfl ⟨g,cap,rfl,hlt,⟨hc 0 _ rfl,hc 1 _ rfl,hc 2 _ rfl,hc 3 _ rfl⟩,HB⟩
def DX (s:ByteArray):Value:= .tuple #[nZ (mY s),.bool (jV s)]
theorem Ep (h:jV s=false):DX s= .tuple #[.agg (bQ 0 0 0 0 0 ⟨#[]⟩ 0),.bool false]:=by
 unfold DX mY;rw [h,aEX Aac];rfl
theorem L9 (h:0 < s.size):s.data.toList.headD 0=s[0]:=by
 have hl:=aZ s;rw [List.headD_eq_head?_getD,List.head?_eq_getElem?,aEQ Aaa];rfl
theorem yR (s:ByteArray) (i:Int) (hs:s.size<=maxLen) (w:World) (hH:Handle w):Calls prog 269 #[.string s,.int .i64 i] w (dM w (.tuple #[.int .i64 (vB s i),.int .i64 (jX s i)])):=by
 have h:=PW s i w hs hH;rw [Fv] at h;exact h
theorem Mv (s:ByteArray) (i:Int) (hs:s.size<=maxLen) (w:World) (hH:Handle w):Calls prog 210 #[.string s,.int .i64 i] w (dM w (.tuple #[.string (j6 s i),.int .i64 (iZ s i)])):=by
 have h:=PY s i w hs hH;rw [Dt] at h;exact h
theorem FD (w:World):Calls prog 271 #[.string ByteArray.empty] w (dM w (.tuple #[.agg (bQ 0 0 0 0 0 ⟨#[]⟩ 0),.bool false])):=by
 go_in
 go_wp2_with fail;exact aET (v:= .tuple #[.agg (bQ 0 0 0 0 0 ⟨#[]⟩ 0),.bool false]) (by simp[results,results271,go_sem]) rfl ⟨rfl,au w _⟩
theorem D9 (s:ByteArray) (hs:s.size<=maxLen) (h0:0 < s.size) (w:World) (hH:Handle w):Calls prog 271 #[.string s] w (dM w (DX s)):=by
 have zI:=Hq (λw1 h=>yR s (gG s 0) hs w1 h);have HG2:=Hq (λw1 h=>yR s (gG s 1) hs w1 h);have Ii:=Hq (λw1 h=>yR s (gG s 2) hs w1 h);have HG4:=Hq (λw1 h=>yR s (gG s 3) hs w1 h);have uo:=Hq (λw1 h=>Mv s (gG s 4) hs w1 h);have HG6:=Hq (λw1 h=>yR s (iZ s (gG s 4)) hs w1 h);have e1:jX s (gG s 0)=gG s 1:=rfl;have e2:jX s (gG s 1)=gG s 2:=rfl;have e3:jX s (gG s 2)=gG s 3:=rfl;have e4:jX s (gG s 3)=gG s 4:=rfl;have ez:gG s 0=1:=rfl;rw [e1] at zI;rw [e2] at HG2;rw [e3] at Ii;rw [e4] at HG4;have HP:=Hq (λw1=>J7 (cand s) w1);have HO:=Hq (show jV s=(decide (yC s=s.size)&&bV (cand s)) by unfold jV;rw [aEO h0];rfl);open apX in exact awX
theorem FC (s:ByteArray) (hs:s.size<=maxLen) (w:World) (hH:Handle w):Calls prog 271 #[.string s] w (dM w (DX s)):=by
 by_cases h0:s.size=0
 .obtain rfl:=eq_empty s h0;rw [Ep (show jV ByteArray.empty=false by unfold jV;simp)];exact FD w
 .exact D9 s hs Aaa w hH
end Go.Proofs.YtbolgdleijjgfaaGreatDoor
