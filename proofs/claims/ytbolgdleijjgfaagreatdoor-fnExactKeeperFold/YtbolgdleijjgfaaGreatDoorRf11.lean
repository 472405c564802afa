/- Parts. -/
import Derived.Test.YtbolgdleijjgfaaGreatDoorRf6
import Derived.Test.YtbolgdleijjgfaaGreatDoorRf10
namespace Go.Proofs.YtbolgdleijjgfaaGreatDoor
open Go.Proofs.Tryz
set_option maxHeartbeats 4000000
set_option maxRecDepth 100000
open Go.RowKit
open Mth
variable (no:Int) (k:ByteArray) (n:Int) (m:Mg) (w:World) {s:ByteArray} {g:Nat} {W:World} {t:TypeId} {o:gP}
theorem Below.setNew {B i:Nat} {w w':World} {v:Value} (h:Below B w w') (hg:B<=g):Below B w (w'.setCell ⟨g,i,none⟩ v):=
 ⟨h.os,h.tape,h.output,by simpa [World.setCell] using h.size,λk hk=>by
  have hkg:k≠g:=Aaa
  rw [aFe _ _ _ _ hkg]
  exact h.block k hk⟩
theorem vC {w:World} {cs:Array Value} (h:w.heap[g]?=some (.cells cs t (0,0))) (i:Nat):w.frozen? ⟨g,i,none⟩=false:=by unfold World.frozen?;rw [h];simp
theorem lQ (w:World) (a b:Obj):((w.alloc a).alloc b).heap[w.heap.size]?=some a/\((w.alloc a).alloc b).heap[w.heap.size+1]?=some b:=by
 have h1:=aJ (aEP w a) (au (w.alloc a) b);have h2:=aEP (w.alloc a) b;rw [show(w.alloc a).heap.size=w.heap.size+1 by simp] at h2;exact⟨h1,h2⟩
theorem jL (w:World) (a b:Obj):Below w.heap.size w ((w.alloc a).alloc b):=(au w a).alloc Aac b
theorem Ey {w:World} {v0 v1 v2 v3 v4 v5 v6 v7 v8 v9 v10:Value} (h:w.heap[g]?=some (.cells #[v0,v1,v2,v3,v4,v5,v6,v7,v8,v9,v10] t (0,0))):
 w.cell? ⟨g,0,none⟩=some v0/\w.cell? ⟨g,1,none⟩=some v1/\w.cell? ⟨g,2,none⟩=some v2/\w.cell? ⟨g,3,none⟩=some v3/\w.cell? ⟨g,4,none⟩=some v4/\w.cell? ⟨g,5,none⟩=some v5/\w.cell? ⟨g,6,none⟩=some v6/\w.cell? ⟨g,7,none⟩=some v7/\w.cell? ⟨g,8,none⟩=some v8/\w.cell? ⟨g,9,none⟩=some v9/\w.cell? ⟨g,10,none⟩=some v10:=by
 exact ahT
theorem Jb:Calls prog 197 #[jX ⟨0,no,k,n,m⟩] w (dU w (.bool (bQ ⟨0,no,k,n,m⟩))):=by
 obtain⟨mK,mF,mT,mI,mL,mk,mN⟩:=m;obtain⟨R,hR⟩:∃R,bQ ⟨0,no,k,n,⟨mK,mF,mT,mI,mL,mk,mN⟩⟩=R:=⟨_,rfl⟩;rw [hR];have HR:=Hq hR;clear hR;cases hk:keyOk k.data.toList
 .exact aj7
 .have HK:=Hq (λw1=>iC k true w1 hk);cases hn:fJ n
  .exact akf
  .open am1 in exact ajP
theorem Jd:Calls prog 197 #[jX ⟨3,no,k,n,m⟩] w (dU w (.bool (bQ ⟨3,no,k,n,m⟩))):=by
 obtain⟨mK,mF,mT,mI,mL,mk,mN⟩:=m;obtain⟨R,hR⟩:∃R,bQ ⟨3,no,k,n,⟨mK,mF,mT,mI,mL,mk,mN⟩⟩=R:=⟨_,rfl⟩;rw [hR];have HR:=Hq hR;clear hR;cases hk:keyOk k.data.toList
 .exact aj7
 .have HK:=Hq (λw1=>iC k true w1 hk);cases hn:fJ n
  .exact akf
  .open am0 in exact ajP
theorem I8:Calls prog 197 #[jX ⟨4,no,k,n,m⟩] w (dU w (.bool (bQ ⟨4,no,k,n,m⟩))):=by
 obtain⟨mK,mF,mT,mI,mL,mk,mN⟩:=m;obtain⟨R,hR⟩:∃R,bQ ⟨4,no,k,n,⟨mK,mF,mT,mI,mL,mk,mN⟩⟩=R:=⟨_,rfl⟩;rw [hR];have HR:=Hq hR;clear hR;cases hk:keyOk k.data.toList
 .exact aj7
 .have HK:=Hq (λw1=>iC k true w1 hk);cases hn:fJ n
  .exact akf
  .open amZ in exact ajP
theorem FV:Calls prog 197 #[jX ⟨1,no,k,n,m⟩] w (dU w (.bool (bQ ⟨1,no,k,n,m⟩))):=by
 obtain⟨mK,mF,mT,mI,mL,mk,mN⟩:=m;obtain⟨R,hR⟩:∃R,bQ ⟨1,no,k,n,⟨mK,mF,mT,mI,mL,mk,mN⟩⟩=R:=⟨_,rfl⟩;rw [hR];have HR:=Hq hR;clear hR;cases ho:fJ no
 .have HO:=Hq (λw1=>aO no false w1 ho);cases hk:keyOk k.data.toList
  .have HK:=Hq (λw1=>iC k false w1 hk);cases hn:fJ n
   .have HN:=Hq (λw1=>aO n false w1 hn);have HP:=Hq (show R=(false&&false&&false&&mq ⟨mK,mF,mT,mI,mL,mk,mN⟩) by rw [<-ah HR];simp[bQ,ho,hk,hn]);exact Tg
   .have HN:=Hq (λw1=>aO n true w1 hn);have HP:=Hq (show R=(false&&false&&true&&mq ⟨mK,mF,mT,mI,mL,mk,mN⟩) by rw [<-ah HR];simp[bQ,ho,hk,hn]);exact Tg
  .have HK:=Hq (λw1=>iC k true w1 hk);cases hn:fJ n
   .have HN:=Hq (λw1=>aO n false w1 hn);have HP:=Hq (show R=(false&&true&&false&&mq ⟨mK,mF,mT,mI,mL,mk,mN⟩) by rw [<-ah HR];simp[bQ,ho,hk,hn]);exact Tg
   .have HN:=Hq (λw1=>aO n true w1 hn);have HP:=Hq (show R=(false&&true&&true&&mq ⟨mK,mF,mT,mI,mL,mk,mN⟩) by rw [<-ah HR];simp[bQ,ho,hk,hn]);exact Tg
 .have HO:=Hq (λw1=>aO no true w1 ho);cases hk:keyOk k.data.toList
  .have HK:=Hq (λw1=>iC k false w1 hk);cases hn:fJ n
   .have HN:=Hq (λw1=>aO n false w1 hn);have HP:=Hq (show R=(true&&false&&false&&mq ⟨mK,mF,mT,mI,mL,mk,mN⟩) by rw [<-ah HR];simp[bQ,ho,hk,hn]);exact Tg
   .have HN:=Hq (λw1=>aO n true w1 hn);have HP:=Hq (show R=(true&&false&&true&&mq ⟨mK,mF,mT,mI,mL,mk,mN⟩) by rw [<-ah HR];simp[bQ,ho,hk,hn]);exact Tg
  .have HK:=Hq (λw1=>iC k true w1 hk);cases hn:fJ n
   .have HN:=Hq (λw1=>aO n false w1 hn);have HP:=Hq (show R=(true&&true&&false&&mq ⟨mK,mF,mT,mI,mL,mk,mN⟩) by rw [<-ah HR];simp[bQ,ho,hk,hn]);exact Tg
   .have HN:=Hq (λw1=>aO n true w1 hn);have HP:=Hq (show R=(true&&true&&true&&mq ⟨mK,mF,mT,mI,mL,mk,mN⟩) by rw [<-ah HR];simp[bQ,ho,hk,hn]);open asn in exact agu
theorem Cu:Calls prog 197 #[jX ⟨2,no,k,n,m⟩] w (dU w (.bool (bQ ⟨2,no,k,n,m⟩))):=by
 obtain⟨mK,mF,mT,mI,mL,mk,mN⟩:=m;obtain⟨R,hR⟩:∃R,bQ ⟨2,no,k,n,⟨mK,mF,mT,mI,mL,mk,mN⟩⟩=R:=⟨_,rfl⟩;rw [hR];have HR:=Hq hR;clear hR;cases ho:fJ no
 .have HO:=Hq (λw1=>aO no false w1 ho);have HP:=Hq (show R=(decide (k.toList=[])&&decide (n=0)&&false&&mq ⟨mK,mF,mT,mI,mL,mk,mN⟩) by rw [<-ah HR];simp[bQ,ho]);clear HR;clear ho;go_in
  go_wp2_with (first|(go_at_call_of 170 no;refine(HO _).mono ?_;rintro e w1 ⟨rfl,rfl⟩))
  go_ret;exact⟨aF (by rw [ah HP];simp),by first|exact jL w _ _|exact Below.setNew (jL w _ _) Aaa⟩
 .have HO:=Hq (λw1=>aO no true w1 ho);have HP:=Hq (show R=(decide (k.toList=[])&&decide (n=0)&&true&&mq ⟨mK,mF,mT,mI,mL,mk,mN⟩) by rw [<-ah HR];simp[bQ,ho]);clear HR;clear ho;go_in
  go_upto_region 23 with(first|(go_at_call_of 170 no;refine(HO _).mono ?_;rintro e w1 ⟨rfl,rfl⟩))
  open atY in exact VY
theorem Jc:Calls prog 197 #[jX ⟨5,no,k,n,m⟩] w (dU w (.bool (bQ ⟨5,no,k,n,m⟩))):=by
 open asL in exact agz
theorem Ja:Calls prog 197 #[jX ⟨6,no,k,n,m⟩] w (dU w (.bool (bQ ⟨6,no,k,n,m⟩))):=by
 have HM:=Hq (λw1=>Kj m w1);open aue in exact agR
theorem I9 (K no:Int) (k:ByteArray) (n:Int) (m:Mg) (w:World) (h0:¬K=0) (h1:¬K=1) (h2:¬K=2) (h3:¬K=3) (h4:¬K=4) (h5:¬K=5) (h6:¬K=6):Calls prog 197 #[jX ⟨K,no,k,n,m⟩] w (dU w (.bool (bQ ⟨K,no,k,n,m⟩))):=by
 have HP:=Hq (show bQ ⟨K,no,k,n,m⟩=false by simp[bQ,h0,h1,h2,h3,h4,h5,h6]);obtain⟨mK,mF,mT,mI,mL,mk,mN⟩:=m;go_in
 go_wp2_with fail;go_ret;exact⟨aF HP.symm,jL w _ _⟩
theorem Qa (o:gP) (w:World):Calls prog 197 #[jX o] w (dU w (.bool (bQ o))):=by
 obtain⟨K,no,k,n,m⟩:=o;by_cases h0:K=0
 .subst h0;exact Jb no k n m w
 by_cases h1:K=1
 .subst h1;exact FV no k n m w
 by_cases h2:K=2
 .subst h2;exact Cu no k n m w
 by_cases h3:K=3
 .subst h3;exact Jd no k n m w
 by_cases h4:K=4
 .subst h4;exact I8 no k n m w
 by_cases h5:K=5
 .subst h5;exact Jc no k n m w
 by_cases h6:K=6
 .subst h6;exact Ja no k n m w
 exact I9 K no k n m w h0 h1 h2 h3 h4 h5 h6
def kb (K:Int):ByteArray:=⟨[UInt8.ofNat K.toNat].toArray⟩
def Bd (m:Mg):ByteArray:=kb m.K++mQ m.F++mQ m.T++mQ m.I++mQ m.L++pQ m.k++mQ m.N
def jR (m:Mg):ByteArray:=if bY m=true then Bd m else ByteArray.empty
theorem zu {m:Mg} (h:bY m=true):jR m=Bd m:=by unfold jR;rw [aFc h]
theorem CK {m:Mg} (h:bY m=false):jR m=ByteArray.empty:=by unfold jR;rw [aE2 (by rw [h];simp)]
theorem afl {m:Mg} (h:bY m=true):0<=m.K/\m.K<=2:=by
 unfold bY at h;simp only[aEX] at h;obtain⟨_,h⟩:=h;exact aiR
theorem WL (K:Int):(kb K).size=1:=rfl
theorem Yf (w:World) (g:Nat) (K:Int) (h:0<=K/\K<=2) (hc:w.cell? ⟨g,0,none⟩=some (.int .u8 K)):(convert 127 9 (.slice (some ⟨g,0,none⟩) 1 1)).run prog w= .ok (.string (kb K)) w:=by
 exact aya
def vF (s:ByteArray) (i:Int):Int:=alb (iB s i)
def kJ (s:ByteArray) (i:Int):Int:=afy (iB s i) i
def kN (s:ByteArray) (i:Int):ByteArray:=ZR (textOf s i.toNat (iB s i))
def jg (s:ByteArray) (i:Int):Int:=Rz (textOf s i.toNat (iB s i))
theorem lY {s:ByteArray} {i:Int} (h:0<=kJ s i):0<=i/\i<=kJ s i/\kJ s i<=s.size/\(mQ (vF s i)).data.toList=(s.data.toList.take (kJ s i).toNat).drop i.toNat:=by
 unfold kJ vF at *;cases hG:iB s i with
 |none=>rw [hG] at h;simp[afy] at h
 |some p=>
  obtain⟨n,c⟩:=p;obtain⟨k,rfl,hk,hc,hn,hput⟩:=Gu hG;simp only[afy,alb];refine⟨Aaa,Aaa,Aaa,?_⟩;rw [<-aFG,hput,aGp,List.drop_take];simp only[aFX];rfl
theorem iO {s:ByteArray} {i:Int} (h:0<=jg s i):0<=i/\i<=jg s i/\jg s i<=s.size/\(kN s i).size<=1000/\(pQ (kN s i)).data.toList=(s.data.toList.take (jg s i).toNat).drop i.toNat:=by
 unfold jg kN at *;cases hG:textOf s i.toNat (iB s i) with
 |none=>rw [hG] at h;simp[Rz] at h
 |some p=>
  obtain⟨t,e⟩:=p;obtain⟨k,rfl,hk,hc,hn,hput⟩:=Zk hG;simp only[Rz,ZR];refine⟨Aaa,Aaa,Aaa,hn,?_⟩;rw [<-aFG,hput,aGp,List.drop_take];simp only[aFX]
def yH (s:ByteArray):Int:=kJ s (jg s (kJ s (kJ s (kJ s (kJ s 1)))))
def cand (s:ByteArray):Mg:=
 ⟨(s.data.toList.headD 0).toNat,vF s 1,vF s (kJ s 1),vF s (kJ s (kJ s 1)),vF s (kJ s (kJ s (kJ s 1))),kN s (kJ s (kJ s (kJ s (kJ s 1)))),vF s (jg s (kJ s (kJ s (kJ s (kJ s 1)))))⟩
theorem nY (l:List UInt8) (i j:Nat) (h:i<=j):l.take i++(l.take j).drop i=l.take j:=by
 have h2:(l.take j).take i=l.take i:=by rw [aGH,aFZ h]
 rw [<-h2,aFJ]
theorem Fq (hs:0 < s.size) (h:0<=yH s):yH s<=s.size/\(Bd (cand s)).data.toList=s.data.toList.take (yH s).toNat:=by
 unfold yH at h;obtain⟨g5,l6,e6,q6⟩:=lY h;obtain⟨g4,l5,e5,_,q5⟩:=iO g5;obtain⟨g3,l4,e4,q4⟩:=lY g4;obtain⟨g2,l3,e3,q3⟩:=lY g3;obtain⟨g1,l2,e2,q2⟩:=lY g2;obtain⟨g0,l1,e1,q1⟩:=lY g1;refine⟨e6,?_⟩;unfold Bd cand yH;simp only[ByteArray.data_append,aGD];rw [q1,q2,q3,q4,q5,q6]
 have q0:(kb ((s.data.toList.headD 0).toNat:Int)).data.toList=s.data.toList.take (1:Int).toNat:=by
  exact aiy
 rw [q0,nY _ _ _ Aaa,nY _ _ _ Aaa,nY _ _ _ Aaa,nY _ _ _ Aaa,nY _ _ _ Aaa,nY _ _ _ Aaa]
def mg0:Mg:=⟨0,0,0,0,0,ByteArray.empty,0⟩
def kE (s:ByteArray):Bool:=decide (0 < s.size)&&decide (yH s=s.size)&&bY (cand s)
def nJ (s:ByteArray):Mg:=if kE s=true then cand s else mg0
theorem FE (hs:0 < s.size):kE s=(decide (0<=yH s)&&decide (jR (cand s)=s)):=by
 rw [aF7];unfold kE;simp only[aEX,aFu];constructor
 .rintro⟨⟨_,h1⟩,h2⟩;have h0:0<=yH s:=Aaa
  refine⟨h0,?_⟩;rw [zu h2];apply aF8
  apply Array.ext'
  rw [(Fq hs h0).2,h1,aFX,aGn (by rw [bf];exact aER _)]
 .rintro⟨h0,h1⟩;obtain⟨hl,hb⟩:=Fq hs h0;cases hm:bY (cand s) with
  |false=>
   rw [CK hm] at h1;rw [<-h1] at hs;exact absurd hs Aae
  |true=>
   rw [zu hm] at h1;refine⟨⟨hs,?_⟩,rfl⟩;rw [h1] at hb;have:=congrArg List.length hb;rw [aFj,bf] at this;omega
def Bl (o:gP):ByteArray:=kb o.K++mQ o.no++pQ o.k++mQ o.n++pQ (jR o.m)
def wW (o:gP):ByteArray:=if bQ o=true then Bl o else ByteArray.empty
theorem CP (h:bQ o=true):wW o=Bl o:=by unfold wW;rw [aFc h]
theorem QI (h:bQ o=false):wW o=ByteArray.empty:=by unfold wW;rw [aE2 (by rw [h];simp)]
theorem Y8 (h:bQ o=true):0<=o.K/\o.K<=6:=by
 unfold bQ at h;split at h
 .omega
 .split at h
  .omega
  .exact aiR
theorem TI (w:World) (g:Nat) (K:Int) (h:0<=K/\K<=6) (hc:w.cell? ⟨g,0,none⟩=some (.int .u8 K)):(convert 127 9 (.slice (some ⟨g,0,none⟩) 1 1)).run prog w= .ok (.string (kb K)) w:=by
 exact aya
theorem Vq (K:Int) (h0:0<=K) (h6:K<=6):IntKind.u8.wrap K=K:=by
 have h3:K=0\/K=1\/K=2\/K=3\/K=4\/K=5\/K=6:=Aaa
 rcases h3 with rfl|rfl|rfl|rfl|rfl|rfl|rfl<;>rfl
theorem Ww {w:World} {v0 v1 v2 v3 v4 v5 v6 v7 v8 v9 v10:Value} (h:w.heap[g]?=some (.cells #[v0,v1,v2,v3,v4,v5,v6,v7,v8,v9,v10] t (0,0))):
 w.cell? ⟨g,0,none⟩=some v0/\w.cell? ⟨g,1,none⟩=some v1/\w.cell? ⟨g,2,none⟩=some v2/\w.cell? ⟨g,3,none⟩=some v3/\w.cell? ⟨g,4,none⟩=some v4/\w.cell? ⟨g,5,none⟩=some v5/\w.cell? ⟨g,6,none⟩=some v6/\w.cell? ⟨g,7,none⟩=some v7/\w.cell? ⟨g,8,none⟩=some v8/\w.cell? ⟨g,9,none⟩=some v9/\w.cell? ⟨g,10,none⟩=some v10:=by
 exact ahT
def KD (s:ByteArray):Int:=kJ s (jg s (kJ s 1))
def BL (s:ByteArray):ByteArray:=kN s (KD s)
def MW (s:ByteArray):Int:=jg s (KD s)
def opC (s:ByteArray):gP:=⟨(s.data.toList.headD 0).toNat,vF s 1,kN s (kJ s 1),vF s (jg s (kJ s 1)),nJ (BL s)⟩
def rV (s:ByteArray):Bool:=decide ((BL s).size=0)||kE (BL s)
theorem afu:bY mg0=false:=Aae
theorem KW (h:s.size=0):s=ByteArray.empty:=eq_empty s h
theorem J9 {b:ByteArray} (h:b.size=0):nJ b=mg0/\kE b=false:=by
 have ho:kE b=false:=by unfold kE;rw [aES Aaa];rfl
 refine⟨?_,ho⟩;unfold nJ;rw [ho,aE2 Aac]
theorem Yc (h:rV s=true):jR (nJ (BL s))=BL s:=by
 by_cases h0:(BL s).size=0
 .rw [(J9 h0).1,CK afu,KW h0]
 .unfold rV at h;rw [aES h0,Bool.false_or] at h;have h2:=FE (s:=BL s) Aaa;rw [h] at h2;unfold nJ;rw [aFc h];have h3:=h2.symm;simp only[aEX,aFu] at h3;exact h3.2
theorem Kv (hs:0 < s.size) (h:0<=MW s) (hb:rV s=true):MW s<=s.size/\(Bl (opC s)).data.toList=s.data.toList.take (MW s).toNat:=by
 have hq:=Yc hb;unfold MW BL at *;obtain⟨g3,l4,e4,_,q4⟩:=iO h;unfold KD at g3 l4 e4 q4 hq h ⊢;obtain⟨g2,l3,e3,q3⟩:=lY g3;obtain⟨g1,l2,e2,_,q2⟩:=iO g2;obtain⟨g0,l1,e1,q1⟩:=lY g1;refine⟨e4,?_⟩;unfold Bl opC BL KD;simp only[ByteArray.data_append,aGD];rw [hq,q1,q2,q3,q4]
 have q0:(kb ((s.data.toList.headD 0).toNat:Int)).data.toList=s.data.toList.take (1:Int).toNat:=by
  exact aiy
 rw [q0,nY _ _ _ Aaa,nY _ _ _ Aaa,nY _ _ _ Aaa,nY _ _ _ Aaa]
def op0:gP:=⟨0,0,ByteArray.empty,0,mg0⟩
def lH (s:ByteArray):Bool:=decide (0 < s.size)&&decide (MW s=s.size)&&rV s&&bQ (opC s)
def getOp (s:ByteArray):gP:=if lH s=true then opC s else op0
theorem Yo (hs:0 < s.size):lH s=(decide (0<=MW s)&&rV s&&decide (wW (opC s)=s)):=by
 rw [aF7];unfold lH;simp only[aEX,aFu];constructor
 .rintro⟨⟨⟨_,h1⟩,hb⟩,h2⟩;have h0:0<=MW s:=Aaa
  refine⟨⟨h0,hb⟩,?_⟩;rw [CP h2];apply aF8
  apply Array.ext'
  rw [(Kv hs h0 hb).2,h1,aFX,aGn (by rw [bf];exact aER _)]
 .rintro⟨⟨h0,hb⟩,h1⟩;obtain⟨hl,hq⟩:=Kv hs h0 hb;cases hm:bQ (opC s) with
  |false=>
   rw [QI hm] at h1;rw [<-h1] at hs;exact absurd hs Aae
  |true=>
   rw [CP hm] at h1;refine⟨⟨⟨hs,?_⟩,hb⟩,rfl⟩;rw [h1] at hq;have:=congrArg List.length hq;rw [aFj,bf] at this;omega
theorem um (s:ByteArray) (i:Int):(kN s i).size<=1000:=by
 exact ahO
theorem ac6 (s:ByteArray):(nJ s).k.size<=1000:=by
 unfold nJ;split
 .exact um _ _
 .decide
theorem YE (o:gP) (w:World):Calls prog 236 #[jX o] w (dU w (.bool (bQ o))):=by
 have HO:=Hq (λw1=>Qa o w1);generalize bQ o=r at *;obtain⟨K,no,k,n,⟨mK,mF,mT,mI,mL,mk,mN⟩⟩:=o;go_in
 exact ahU
def gL (s:ByteArray):Nat->Int
 |0=>1
 |j+1=>kJ s (gL s j)
def numsL (s:ByteArray) (j:Nat):List Value:=(List.range j).map λi=> .int .i64 (vF s (gL s i))
theorem UD (s:ByteArray) (j:Nat):numsL s (j+1)=numsL s j++[.int .i64 (vF s (gL s j))]:=by unfold numsL;rw [aGV,List.map_append];rfl
theorem acr:(prog.info? 3).map (λi=>(i.zero,i.size,i.bytes))=some (some (.int .i64 0),1,8):=Aab
theorem own_below {w w':World} {base size n:Nat} {e:TypeId} {v:Value} {xs:List Value} (h:w.ownsRow base e size v n xs) (hb:aH w w'):w'.ownsRow base e size v n xs:=by
 refine h.kept (row:=none) ⟨hb.os,hb.tape,hb.output,hb.size,λk hk _=>hb.block k hk⟩ ?_;cases hv:v.ownBlock with
 |none=>exact .inl rfl
 |some k=>right;simp
theorem Nv (s:ByteArray) (i:Int) (hs:s.size<=maxLen) (w:World):Calls prog 123 #[.string s,.int .i64 i] w (dU w (.tuple #[.int .i64 (vF s i),.int .i64 (kJ s i)])):=by
 have h:=Dy s i w hs;rw [FH] at h;exact h
theorem Nz (s:ByteArray) (i:Int) (hs:s.size<=maxLen) (w:World):Calls prog 94 #[.string s,.int .i64 i] w (dU w (.tuple #[.string (kN s i),.int .i64 (jg s i)])):=by
 have h:=Rj s i w hs;rw [DC] at h;exact h
theorem afn (s:ByteArray) (hs:s.size<=maxLen) (w:World):Calls prog 148 #[.string s,.int .i64 1,.int .i64 4] w λe w'=>
 ∃g cap,e= .returned (.tuple #[.slice (some ⟨g,0,none⟩) 4 cap,.int .i64 (gL s 4)])/\g < w'.heap.size/\(w'.cell? ⟨g,0,none⟩=some (.int .i64 (vF s (gL s 0)))/\w'.cell? ⟨g,1,none⟩=some (.int .i64 (vF s (gL s 1)))/\w'.cell? ⟨g,2,none⟩=some (.int .i64 (vF s (gL s 2)))/\w'.cell? ⟨g,3,none⟩=some (.int .i64 (vF s (gL s 3))))/\aH w w':=by
 obtain⟨i0,hi,hz0,hz1,hz2⟩:=aFt acr;have HG:=Hq (λi w1=>Nv s i hs w1);clear hs;go_in
 go_wp2_with fail;go_loopw [8,9,10] (λv a k wr=>∃j,j<=4/\k= .int .i64 (j:Nat)/\a= .int .i64 (gL s j)/\wr.ownsRow w.heap.size 3 1 v j (numsL s j)/\aH w wr) (λ_ _ k _=>4 - (intOf k).toNat)
 case atStart=>exact⟨0,Aaa,rfl,rfl,aFC _ #[] 0 (aER _) Aae rfl,(aE3 _ _).alloc (aER _) _⟩
 case round=>
  obtain⟨j,hj,rfl,rfl,hown,hbel⟩:=hrel;by_cases hlt:j < 4
  .have HN:=Hq (UD s j);have HP:=Hq (show gL s (j+1)=kJ s (gL s j) from rfl);have hg:=λw1=>HG (gL s j) w1
   generalize vF s (gL s j)=x at *;generalize kJ s (gL s j)=a' at *;generalize gL s j=a at *;have Ih:=Hq hg;clear hg;go_wp2_with fail;refine(Ih _).mono ?_;rintro e w5 ⟨rfl,hb5⟩;have hown5:=own_below hown hb5;have abP:=hbel.trans (hb5.mono hbel.size);clear hb5 hown hbel;go_wp2_with (at_builtin;refine aFL _ rfl _ _ 22 rfl w.heap.size 3 i0 (.int .i64 0) 1 8 underlying22 hi hz0 hz1 hz2 rfl Aae _ _ _ rfl (hown5.alloc _) ⟨w5.heap.size,0,none⟩ 1 1 [.int .i64 x] rfl rfl ?c1 ?c2 ?c3 ?c4 ?c5 ?_)
   case c1=>exact cell_one_new _ _ _
   case c2=>intro u hu;simp at hu;subst hu;rfl
   case c3=>unfold maxLen;omega
   case c4=>omega
   case c5=>have:=abP.size;simp;omega
   intro v' w6 hown' hgrow _;have Pz:=below_append abP hown5 hgrow;rw [<-ah HN] at hown';clear hgrow hown5 abP HN;go_wp2_with fail;go_roundw
   case rel=>exact⟨j+1,Aaa,Aaf,Aaw,hown',Pz⟩
   case measure=>simp[intOf];omega
  .obtain rfl:j=4:=Aaa
   obtain⟨g,cap,rfl,_,_⟩:=World.ownsRow.form hown Aaa;have hc:=Hq (hown.cells (g:=g) rfl);have hlt:=(hown.lt g rfl).2;have HB:=Hq hbel;clear hown hbel;go_wp2_with fail;exact aEY (v:= .tuple #[.slice (some ⟨g,0,none⟩) 4 cap,.int .i64 (gL s 4)]) (by simp[results,results148,go_sem]) rfl ⟨g,cap,rfl,hlt,⟨hc 0 _ rfl,hc 1 _ rfl,hc 2 _ rfl,hc 3 _ rfl⟩,HB⟩
def D9 (s:ByteArray):Value:= .tuple #[oJ (nJ s),.bool (kE s)]
theorem Ez (h:kE s=false):D9 s= .tuple #[.agg (bX 0 0 0 0 0 ⟨#[]⟩ 0),.bool false]:=by
 unfold D9 nJ;rw [h,aE2 Aac];rfl
theorem Me (h:0 < s.size):s.data.toList.headD 0=s[0]:=by
 have hl:=bf s;rw [List.headD_eq_head?_getD,List.head?_eq_getElem?,aEV Aaa];rfl
theorem yZ (s:ByteArray) (i:Int) (hs:s.size<=maxLen) (w:World) (hH:Handle w):Calls prog 269 #[.string s,.int .i64 i] w (dU w (.tuple #[.int .i64 (vF s i),.int .i64 (kJ s i)])):=by
 have h:=PZ s i w hs hH;rw [FH] at h;exact h
theorem MC (s:ByteArray) (i:Int) (hs:s.size<=maxLen) (w:World) (hH:Handle w):Calls prog 210 #[.string s,.int .i64 i] w (dU w (.tuple #[.string (kN s i),.int .i64 (jg s i)])):=by
 have h:=P5 s i w hs hH;rw [DC] at h;exact h
theorem FQ (w:World):Calls prog 271 #[.string ByteArray.empty] w (dU w (.tuple #[.agg (bX 0 0 0 0 0 ⟨#[]⟩ 0),.bool false])):=by
 go_in
 go_wp2_with fail;exact aEY (v:= .tuple #[.agg (bX 0 0 0 0 0 ⟨#[]⟩ 0),.bool false]) (by simp[results,results271,go_sem]) rfl ⟨rfl,au w _⟩
theorem Ef (s:ByteArray) (hs:s.size<=maxLen) (h0:0 < s.size) (w:World) (hH:Handle w):Calls prog 271 #[.string s] w (dU w (D9 s)):=by
 have xY:=Hq (λw1 h=>yZ s (gL s 0) hs w1 h);have HG2:=Hq (λw1 h=>yZ s (gL s 1) hs w1 h);have Ir:=Hq (λw1 h=>yZ s (gL s 2) hs w1 h);have HG4:=Hq (λw1 h=>yZ s (gL s 3) hs w1 h);have rR:=Hq (λw1 h=>MC s (gL s 4) hs w1 h);have HG6:=Hq (λw1 h=>yZ s (jg s (gL s 4)) hs w1 h);have e1:kJ s (gL s 0)=gL s 1:=rfl;have e2:kJ s (gL s 1)=gL s 2:=rfl;have e3:kJ s (gL s 2)=gL s 3:=rfl;have e4:kJ s (gL s 3)=gL s 4:=rfl;have ez:gL s 0=1:=rfl;rw [e1] at xY;rw [e2] at HG2;rw [e3] at Ir;rw [e4] at HG4;have HP:=Hq (λw1=>Kj (cand s) w1);have HO:=Hq (show kE s=(decide (yH s=s.size)&&bY (cand s)) by unfold kE;rw [aET h0];rfl);open apU in exact aw4
theorem FN (s:ByteArray) (hs:s.size<=maxLen) (w:World) (hH:Handle w):Calls prog 271 #[.string s] w (dU w (D9 s)):=by
 by_cases h0:s.size=0
 .obtain rfl:=eq_empty s h0;rw [Ez (show kE ByteArray.empty=false by unfold kE;simp)];exact FQ w
 .exact Ef s hs Aaa w hH
theorem JA (hs:k.size<=maxLen):Calls prog 126 #[jX ⟨0,no,k,n,m⟩] w (dU w (.bool (bQ ⟨0,no,k,n,m⟩))):=by
 obtain⟨mK,mF,mT,mI,mL,mk,mN⟩:=m;obtain⟨R,hR⟩:∃R,bQ ⟨0,no,k,n,⟨mK,mF,mT,mI,mL,mk,mN⟩⟩=R:=⟨_,rfl⟩;exact Zk6
theorem JC (hs:k.size<=maxLen):Calls prog 126 #[jX ⟨3,no,k,n,m⟩] w (dU w (.bool (bQ ⟨3,no,k,n,m⟩))):=by
 obtain⟨mK,mF,mT,mI,mL,mk,mN⟩:=m;obtain⟨R,hR⟩:∃R,bQ ⟨3,no,k,n,⟨mK,mF,mT,mI,mL,mk,mN⟩⟩=R:=⟨_,rfl⟩;exact Zk6
theorem Jw (hs:k.size<=maxLen):Calls prog 126 #[jX ⟨4,no,k,n,m⟩] w (dU w (.bool (bQ ⟨4,no,k,n,m⟩))):=by
 obtain⟨mK,mF,mT,mI,mL,mk,mN⟩:=m;obtain⟨R,hR⟩:∃R,bQ ⟨4,no,k,n,⟨mK,mF,mT,mI,mL,mk,mN⟩⟩=R:=⟨_,rfl⟩;exact Zk6
theorem Hl (hs:k.size<=maxLen):Calls prog 126 #[jX ⟨1,no,k,n,m⟩] w (dU w (.bool (bQ ⟨1,no,k,n,m⟩))):=by
 obtain⟨mK,mF,mT,mI,mL,mk,mN⟩:=m;obtain⟨R,hR⟩:∃R,bQ ⟨1,no,k,n,⟨mK,mF,mT,mI,mL,mk,mN⟩⟩=R:=⟨_,rfl⟩;rw [hR];have HR:=Hq hR;clear hR;cases hk:keyOk k.data.toList
 .have HK:=Hq (λw1=>oW k false w1 hs hk);cases hn:fJ n
  .have HN:=Hq (λw1=>eH n false w1 hn);cases ho:fJ no
   .have HO:=Hq (λw1=>eH no false w1 ho);have HP:=Hq (show R=(false&&false&&false&&mq ⟨mK,mF,mT,mI,mL,mk,mN⟩) by rw [<-ah HR];simp[bQ,hk,hn,ho]);exact OZ
   .have HO:=Hq (λw1=>eH no true w1 ho);have HP:=Hq (show R=(false&&false&&true&&mq ⟨mK,mF,mT,mI,mL,mk,mN⟩) by rw [<-ah HR];simp[bQ,hk,hn,ho]);exact OZ
  .have HN:=Hq (λw1=>eH n true w1 hn);cases ho:fJ no
   .have HO:=Hq (λw1=>eH no false w1 ho);have HP:=Hq (show R=(false&&true&&false&&mq ⟨mK,mF,mT,mI,mL,mk,mN⟩) by rw [<-ah HR];simp[bQ,hk,hn,ho]);exact OZ
   .have HO:=Hq (λw1=>eH no true w1 ho);have HP:=Hq (show R=(false&&true&&true&&mq ⟨mK,mF,mT,mI,mL,mk,mN⟩) by rw [<-ah HR];simp[bQ,hk,hn,ho]);exact OZ
 .have HK:=Hq (λw1=>oW k true w1 hs hk);cases hn:fJ n
  .have HN:=Hq (λw1=>eH n false w1 hn);cases ho:fJ no
   .have HO:=Hq (λw1=>eH no false w1 ho);have HP:=Hq (show R=(true&&false&&false&&mq ⟨mK,mF,mT,mI,mL,mk,mN⟩) by rw [<-ah HR];simp[bQ,hk,hn,ho]);exact OZ
   .have HO:=Hq (λw1=>eH no true w1 ho);have HP:=Hq (show R=(true&&false&&true&&mq ⟨mK,mF,mT,mI,mL,mk,mN⟩) by rw [<-ah HR];simp[bQ,hk,hn,ho]);exact OZ
  .have HN:=Hq (λw1=>eH n true w1 hn);cases ho:fJ no
   .have HO:=Hq (λw1=>eH no false w1 ho);have HP:=Hq (show R=(true&&true&&false&&mq ⟨mK,mF,mT,mI,mL,mk,mN⟩) by rw [<-ah HR];simp[bQ,hk,hn,ho]);exact OZ
   .have HO:=Hq (λw1=>eH no true w1 ho);have HP:=Hq (show R=(true&&true&&true&&mq ⟨mK,mF,mT,mI,mL,mk,mN⟩) by rw [<-ah HR];simp[bQ,hk,hn,ho]);exact OZ
theorem CW (_hs:k.size<=maxLen):Calls prog 126 #[jX ⟨2,no,k,n,m⟩] w (dU w (.bool (bQ ⟨2,no,k,n,m⟩))):=by
 obtain⟨mK,mF,mT,mI,mL,mk,mN⟩:=m;obtain⟨R,hR⟩:∃R,bQ ⟨2,no,k,n,⟨mK,mF,mT,mI,mL,mk,mN⟩⟩=R:=⟨_,rfl⟩;rw [hR];have HR:=Hq hR;clear hR;cases ho:fJ no
 .have HO:=Hq (λw1=>eH no false w1 ho);have HP:=Hq (show R=(decide (k.toList=[])&&decide (n=0)&&false&&mq ⟨mK,mF,mT,mI,mL,mk,mN⟩) by rw [<-ah HR];simp[bQ,ho]);exact ahy
 .have HO:=Hq (λw1=>eH no true w1 ho);have HP:=Hq (show R=(decide (k.toList=[])&&decide (n=0)&&true&&mq ⟨mK,mF,mT,mI,mL,mk,mN⟩) by rw [<-ah HR];simp[bQ,ho]);exact ahy
theorem JB (_hs:k.size<=maxLen):Calls prog 126 #[jX ⟨5,no,k,n,m⟩] w (dU w (.bool (bQ ⟨5,no,k,n,m⟩))):=by
 open asM in exact agz
theorem Jz (hm:m.k.size<=maxLen):Calls prog 126 #[jX ⟨6,no,k,n,m⟩] w (dU w (.bool (bQ ⟨6,no,k,n,m⟩))):=by
 have HM:=Hq (λw1=>lq m w1 hm);open auf in exact agR
theorem Jy (K no:Int) (k:ByteArray) (n:Int) (m:Mg) (w:World) (h0:¬K=0) (h1:¬K=1) (h2:¬K=2) (h3:¬K=3) (h4:¬K=4) (h5:¬K=5) (h6:¬K=6):Calls prog 126 #[jX ⟨K,no,k,n,m⟩] w (dU w (.bool (bQ ⟨K,no,k,n,m⟩))):=by
 have HP:=Hq (show bQ ⟨K,no,k,n,m⟩=false by simp[bQ,h0,h1,h2,h3,h4,h5,h6]);obtain⟨mK,mF,mT,mI,mL,mk,mN⟩:=m;go_in
 go_wp2_with fail;exact yh
theorem jK (o:gP) (w:World) (hs:o.k.size<=maxLen) (hm:o.m.k.size<=maxLen):Calls prog 126 #[jX o] w (dU w (.bool (bQ o))):=by
 obtain⟨K,no,k,n,m⟩:=o;by_cases h0:K=0
 .subst h0;exact JA no k n m w hs
 by_cases h1:K=1
 .subst h1;exact Hl no k n m w hs
 by_cases h2:K=2
 .subst h2;exact CW no k n m w hs
 by_cases h3:K=3
 .subst h3;exact JC no k n m w hs
 by_cases h4:K=4
 .subst h4;exact Jw no k n m w hs
 by_cases h5:K=5
 .subst h5;exact JB no k n m w hs
 by_cases h6:K=6
 .subst h6;exact Jz no k n m w hm
 exact Jy K no k n m w h0 h1 h2 h3 h4 h5 h6
def lu (s:ByteArray):Nat:=65536*(sums s.data.toList).2+(sums s.data.toList).1
theorem NH (s:ByteArray):lu s < 4294967296:=by
 have:=sums_lt s.data.toList;unfold lu;omega
def four (n:Nat):List UInt8:=[UInt8.ofNat (n / 16777216),UInt8.ofNat (n / 65536 % 256),UInt8.ofNat (n / 256 % 256),UInt8.ofNat (n % 256)]
def mX (n:Nat):ByteArray:=⟨(four n).toArray⟩
theorem J3 (w:World) (g n cap:Nat) (h:n < 4294967296) (c0:w.cell? ⟨g,0,none⟩=some (.int .u8 ((n:Int) / 16777216))) (c1:w.cell? ⟨g,1,none⟩=some (.int .u8 ((n:Int) / 65536 % 256))) (c2:w.cell? ⟨g,2,none⟩=some (.int .u8 ((n:Int) / 256 % 256))) (c3:w.cell? ⟨g,3,none⟩=some (.int .u8 ((n:Int) % 256))):
 (convert 127 9 (.slice (some ⟨g,0,none⟩) 4 cap)).run prog w= .ok (.string (mX n)) w:=by
 refine aGt (P:=prog) w 127 9 5 ⟨g,0,none⟩ cap (four n) underlying127 underlying5 underlying9 ?_;intro j hj;have hj4:j < 4:=hj;have hcase:j=0\/j=1\/j=2\/j=3:=Aaa
 rcases hcase with rfl|rfl|rfl|rfl
 .show w.cell? ⟨g,0,none⟩=_
  rw [c0];simp only[four,aGu];rw [toNat_byte _ Aaa];rfl
 .show w.cell? ⟨g,1,none⟩=_
  rw [c1];simp only[four,List.getElem_cons_succ,aGu];rw [toNat_byte _ Aaa];rfl
 .show w.cell? ⟨g,2,none⟩=_
  rw [c2];simp only[four,List.getElem_cons_succ,aGu];rw [toNat_byte _ Aaa];rfl
 .show w.cell? ⟨g,3,none⟩=_
  rw [c3];simp only[four,List.getElem_cons_succ,aGu];rw [toNat_byte _ Aaa];rfl
theorem afo (n:Nat) (h:n < 4294967296) (w:World):Calls prog 96 #[.int .u32 n] w (dU w (.string (mX n))):=by
 have hcv:=J3 (w.alloc (.cells #[.int .u8 ((n:Int) / 16777216),.int .u8 ((n:Int) / 65536 % 256),.int .u8 ((n:Int) / 256 % 256),.int .u8 ((n:Int) % 256)] 5)) w.heap.size n 4 h Aac Aac Aac Aac;go_in
 go_wp2_with fail;go_ret;exact⟨rfl,au w _⟩
theorem adB (s:ByteArray) (hs:s.size<=maxLen) (w:World):Calls prog 211 #[.string s] w λe w'=>∃g,e= .returned (.slice (some ⟨g,0,none⟩) 4 4)/\w.heap.size<=g/\w'.heap[g]?=some (.cells #[.int .u8 ((lu s:Int) / 16777216),.int .u8 ((lu s:Int) / 65536 % 256),.int .u8 ((lu s:Int) / 256 % 256),.int .u8 ((lu s:Int) % 256)] 5 (0,0))/\aH w w':=by
 have hn:=NH s;have HC:=Hq (λw1=>Ml s w1 hs);have e:(65536*(sums s.data.toList).2+(sums s.data.toList).1:Int)=(lu s:Int):=by unfold lu;omega
 rw [e] at HC;clear e hs;generalize lu s=n at *;go_in
 go_wp2_with fail;refine(HC _).mono ?_;rintro e w1 ⟨rfl,rfl⟩;go_wp2_with fail;go_ret;exact⟨w.heap.size,rfl,aER _,aEP w _,au w _⟩
theorem aB7:prog.globalNamed "errors.errorType" =some 0:=Aab
theorem alg:(prog.cutTypes.find? (·.1 == "internal/reflectlite.rtype")).map (·.2)=some 340:=Aab
theorem alc:((List.range 403).filter λt=>prog.rowNamed t [101,114,114,111,114])=[247]:=Aab
theorem ZT:prog.types.size=403:=Aab
theorem Yp {l:List (String×DataW Unit)} (h:handlesMet prog l W) (hm:("errors.errorType",Rows.laid_errors_errorType)∈l):Handle W:=by
 obtain⟨name,u,ty,e1,e2,e3,e4,e5⟩:=h _ hm;have en:name=[101,114,114,111,114]:=(aFI e1).symm;subst en;obtain rfl:=aFI (alg.symm.trans e2);have hm:ty∈(List.range 403).filter λt=>prog.rowNamed t [101,114,114,111,114]:=aGM.2 ⟨aFU.2 (by rw [<-ZT];exact e3),e4⟩
 rw [alc] at hm;obtain rfl:=aE6.1 hm;have hh:typeHandle prog 247= .pointer (some ⟨6,247,none⟩):=Aab
 rw [hh] at e5;have:=World.var?_cell aB7 e5 0;unfold Handle;simpa using this
theorem TW:(prog.globals[3]?).map (·.type)=some 247:=Aab
theorem ae5:(prog.globals[1]?).map (·.type)=some 247:=Aab
theorem TV:(prog.globals[2]?).map (·.type)=some 247:=Aab
theorem ae4:(prog.globals[4]?).map (·.type)=some 247:=Aab
theorem abJ:(prog.globals[5]?).map (·.type)=some 247:=Aab
theorem Yl:prog.globalNamed "loop.example/g00264/impl.errNoPurses" =some 3:=Aab
theorem akw:prog.globalNamed "loop.example/g00264/impl.errNoKey" =some 1:=Aab
theorem Yk:prog.globalNamed "loop.example/g00264/impl.errNoAmount" =some 2:=Aab
theorem akv:prog.globalNamed "loop.example/g00264/impl.errFewer" =some 4:=Aab
theorem ae3:prog.globalNamed "loop.example/g00264/impl.errBeyond" =some 5:=Aab
theorem abq:prog.cellsOf 392=1:=Aab
theorem abr:prog.cellsOf 9=1:=Aab
theorem Xm: "*" ++ "errors.errorString" = "*errors.errorString" :=Aae
theorem alf (u:TypeId) (h:prog.typeName? 3 u=some "*errors.errorString"):u=374:=
 typeName_ptr_named (nm:= "errors.errorString") (by rw [Xm];kernel_rfl) Aab Aae u (by rw [Xm];exact h)
theorem QZ {n:String} {text:List UInt8} {r:List (String×DataW Unit)} (h:laidMet prog ((n,.iface "*errors.errorString" (.ptr (.agg [.lit (.string text)])))::r) W) (hg:prog.globalNamed n=some g) (ht:(prog.globals[g]?).map (·.type)=some 247):
 ∃(a:Addr) (s:ByteArray) (c:Array Value) (t:TypeId),W.cell? ⟨g,0,none⟩=some (uN a)/\W.cell? a=some (.string s)/\s.data.toList=text/\W.heap[a.block]?=some (.cells c t (0,0)):=by
 obtain⟨ps,⟨g0',t0',cs0,f0,p0,q0,hg0',ht0',hv0,hd0,_,e0⟩,hnd,hrows⟩:=h;obtain rfl:=aFI (hg.symm.trans hg0');obtain rfl:=aFI (ht.symm.trans ht0');subst e0;obtain⟨l0⟩:=cs0
 have ok0:∀u v,l0=[.iface u v]->Value.okWide prog W .any 0 u v:=λu v e=>by
  subst e
  exact(hrows g 0 (by simp[MemPlace.row])).2 u v (by simpa using World.var?_cell hg0' hv0 0)
 obtain⟨a0,s0,rfl,hc0,hs0,hz0,rfl⟩:=errorString_of_trod underlying247 alf underlying374 underlying392 rfl rfl underlying9 abq abr hd0 ok0;obtain⟨c0,t0,hb0⟩:=(hrows a0.block a0.off (by simp[MemPlace.row])).1;exact⟨a0,s0,c0,t0,by simpa using World.var?_cell hg0' hv0 0,hc0,hs0,hb0⟩
theorem apart {a b:Addr} {t:ByteArray} (ha:W.cell? a=some (.string s)) (hb:W.cell? b=some (.string t)) (hne:s.data.toList≠t.data.toList):a≠b:=λe=>by
 rw [e,hb] at ha;injection ha with ha
 injection ha with ha
 exact hne (by rw [ha])
theorem abC (h:laidMet prog [("loop.example/g00264/impl.errNoPurses",Rows.laid_loop_example_g00264_impl_errNoPurses),("loop.example/g00264/impl.errNoKey",Rows.laid_loop_example_g00264_impl_errNoKey),("loop.example/g00264/impl.errNoAmount",Rows.laid_loop_example_g00264_impl_errNoAmount),("loop.example/g00264/impl.errFewer",Rows.laid_loop_example_g00264_impl_errFewer),("loop.example/g00264/impl.errBeyond",Rows.laid_loop_example_g00264_impl_errBeyond)] W):∃E,iy W E:=by
 obtain⟨a2,s2,k2,t2,v2,c2,x2,b2⟩:=QZ h Yl TW;have h1:=h.tail;obtain⟨a0,s0,k0,t0,v0,c0,x0,b0⟩:=QZ h1 akw ae5;have h2:=h1.tail;obtain⟨a1,s1,k1,t1,v1,c1,x1,b1⟩:=QZ h2 Yk TV;have h3:=h2.tail;obtain⟨a3,s3,k3,t3,v3,c3,x3,b3⟩:=QZ h3 akv ae4;have h4:=h3.tail;obtain⟨a4,s4,k4,t4,v4,c4,x4,b4⟩:=QZ h4 ae3 abJ;let E:Nat->Addr:=λi=>if i=3 then a2 else if i=1 then a0 else if i=2 then a1 else if i=4 then a3 else a4
 let T:Nat->ByteArray:=λi=>if i=3 then s2 else if i=1 then s0 else if i=2 then s1 else if i=4 then s3 else s4
 have hT:∀i,(1<=i/\i < 6)->W.cell? (E i)=some (.string (T i)):=λi hi=>by
  have:i=1\/i=2\/i=3\/i=4\/i=5:=Aaa
  rcases this with rfl|rfl|rfl|rfl|rfl
  all_goals first|exact c0|exact c1|exact c2|exact c3|exact c4
 refine⟨E,⟨λi hi=>?_,λi hi=>?_,λi j hi hj hne=>apart (hT i hi) (hT j hj) ?_⟩⟩
 .have:i=1\/i=2\/i=3\/i=4\/i=5:=Aaa
  rcases this with rfl|rfl|rfl|rfl|rfl
  all_goals first|exact v0|exact v1|exact v2|exact v3|exact v4
 .have:i=1\/i=2\/i=3\/i=4\/i=5:=Aaa
  rcases this with rfl|rfl|rfl|rfl|rfl
  all_goals first|exact⟨_,_,b0⟩|exact⟨_,_,b1⟩|exact⟨_,_,b2⟩|exact⟨_,_,b3⟩|exact⟨_,_,b4⟩
 .have hi':i=1\/i=2\/i=3\/i=4\/i=5:=Aaa
  have hj':j=1\/j=2\/j=3\/j=4\/j=5:=Aaa
  rcases hi' with rfl|rfl|rfl|rfl|rfl<;>rcases hj' with rfl|rfl|rfl|rfl|rfl
  all_goals first|exact absurd rfl hne|(simp[T,x0,x1,x2,x3,x4])
theorem vZ (h:laidMetH prog Rows.fnExactKeeperFoldRow.laid W):(∃E,iy W E)/\Handle W:=by
 have h':laidMet prog [("loop.example/g00264/impl.errNoPurses",Rows.laid_loop_example_g00264_impl_errNoPurses),("loop.example/g00264/impl.errNoKey",Rows.laid_loop_example_g00264_impl_errNoKey),("loop.example/g00264/impl.errNoAmount",Rows.laid_loop_example_g00264_impl_errNoAmount),("loop.example/g00264/impl.errFewer",Rows.laid_loop_example_g00264_impl_errFewer),("loop.example/g00264/impl.errBeyond",Rows.laid_loop_example_g00264_impl_errBeyond)] W/\handlesMet prog [("errors.errorType",Rows.laid_errors_errorType)] W:=h;exact⟨abC h'.1,Yp h'.2 (aE6.2 rfl)⟩
end Go.Proofs.YtbolgdleijjgfaaGreatDoor
