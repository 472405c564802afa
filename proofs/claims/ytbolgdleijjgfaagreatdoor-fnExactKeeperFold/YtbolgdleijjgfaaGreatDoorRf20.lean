/- Parts. -/
import Derived.Test.YtbolgdleijjgfaaGreatDoorRf16
namespace Go.Proofs.YtbolgdleijjgfaaGreatDoor
open Go.Proofs.Tryz
set_option maxHeartbeats 2000000
set_option maxRecDepth 100000
open Go.RowKit
open Mth
variable (a:Option Addr) {g s x sz:Nat} {w b w':World} {S S':Nat->Prop} {l:List Sn} {I:Nat->Nat} {α:Type} {enc:α->List Value} {n:Nd}
def gF (k:Nat):Pu:=⟨mark k,(k:Int)+1,(k:Int)+2,(k:Int)+3⟩
theorem GR.W.fourPurse {a:Option Addr} {l:List Pu} (h:GR.W fA 4 w a g l) (i:Nat) (hi:i < l.length):a=some ⟨g,0,none⟩/\g < w.heap.size/\(w.cell? ⟨g,i*4,none⟩=some (.string l[i].k)/\w.cell? ⟨g,i*4+1,none⟩=some (.int .i64 l[i].m)/\w.cell? ⟨g,i*4+2,none⟩=some (.int .i64 l[i].f)/\w.cell? ⟨g,i*4+3,none⟩=some (.int .i64 l[i].s))/\w.frozen? ⟨g,i*4,none⟩=false/\w.frozen? ⟨g,i*4+1,none⟩=false/\w.frozen? ⟨g,i*4+2,none⟩=false/\w.frozen? ⟨g,i*4+3,none⟩=false:=by
 exact aez
theorem Uv (g c s:Nat) (l:List Pu) (w:World) (hs0:0 < s) (hs1:s<=4000000000000000) (hl:l.length<=1048600) (ha:GR.W fA 4 w a g l):
 Calls prog 72 #[.slice a l.length c,.int .i64 s] w λe w'=>e= .returned (.int .i64 (s+4*(l.length:Int)))/\GR.W fA 4 w' a g (jW gF 4 s l l.length)/\aA (fp g l) w w':=by
 have HA:=Hq ha;clear ha;go_in
 go_wp2_with fail;go_loopw [1,5] (λkk i wr=>∃k m:Nat,k<=l.length/\i= .int .i64 k/\kk= .int .i64 m/\m=s+4*k/\GR.W fA 4 wr a g (jW gF 4 s l k)/\aA (fp g l) w wr) (λ_ i _=>l.length - (intOf i).toNat)
 case atStart=>exact X9
 case round=>
  open apG in exact Te
theorem Ua (g c n s:Nat) (l:List Pu) (w:World) (hn:n=l.length) (hs0:0 < s) (hs1:s<=4000000000000000) (hl:l.length<=1048600) (ha:GR.W fA 4 w a g (jW gF 4 s l l.length)):
 Calls prog 77 #[.slice a n c,.int .i64 s] w (dU w (.int .i64 (s+4*(l.length:Int)))):=by
 have HA:=Hq ha;clear ha;subst hn;go_in
 go_wp2_with fail;go_loopw [1,5] (λkk i wr=>∃k m:Nat,k<=l.length/\i= .int .i64 k/\kk= .int .i64 m/\m=s+4*k/\aH w wr) (λ_ i _=>l.length - (intOf i).toNat)
 case atStart=>exact Tp
 case round=>
  open arY in exact E8
def iF (k:Nat):jI:=⟨(k:Int),(k:Int)+1,mark (k+2),(k:Int)+3⟩
theorem GR.W.fourSent {a:Option Addr} {l:List jI} (h:GR.W aM 4 w a g l) (i:Nat) (hi:i < l.length):a=some ⟨g,0,none⟩/\g < w.heap.size/\(w.cell? ⟨g,i*4,none⟩=some (.int .i64 l[i].i)/\w.cell? ⟨g,i*4+1,none⟩=some (.int .i64 l[i].t)/\w.cell? ⟨g,i*4+2,none⟩=some (.string l[i].k)/\w.cell? ⟨g,i*4+3,none⟩=some (.int .i64 l[i].n))/\w.frozen? ⟨g,i*4,none⟩=false/\w.frozen? ⟨g,i*4+1,none⟩=false/\w.frozen? ⟨g,i*4+2,none⟩=false/\w.frozen? ⟨g,i*4+3,none⟩=false:=by
 exact aez
theorem YN (g c s:Nat) (l:List jI) (w:World) (hs0:0 < s) (hs1:s<=4000000000000000) (hl:l.length<=1048600) (ha:GR.W aM 4 w a g l):
 Calls prog 73 #[.slice a l.length c,.int .i64 s] w λe w'=>e= .returned (.int .i64 (s+4*(l.length:Int)))/\GR.W aM 4 w' a g (jW iF 4 s l l.length)/\aA (fp g l) w w':=by
 have HA:=Hq ha;clear ha;go_in
 go_wp2_with fail;go_loopw [1,5] (λkk i wr=>∃k m:Nat,k<=l.length/\i= .int .i64 k/\kk= .int .i64 m/\m=s+4*k/\GR.W aM 4 wr a g (jW iF 4 s l k)/\aA (fp g l) w wr) (λ_ i _=>l.length - (intOf i).toNat)
 case atStart=>exact X9
 case round=>
  open apF in exact Te
theorem Yu (g c n s:Nat) (l:List jI) (w:World) (hn:n=l.length) (hs0:0 < s) (hs1:s<=4000000000000000) (hl:l.length<=1048600) (ha:GR.W aM 4 w a g (jW iF 4 s l l.length)):
 Calls prog 78 #[.slice a n c,.int .i64 s] w (dU w (.int .i64 (s+4*(l.length:Int)))):=by
 have HA:=Hq ha;clear ha;subst hn;go_in
 go_wp2_with fail;go_loopw [1,5] (λkk i wr=>∃k m:Nat,k<=l.length/\i= .int .i64 k/\kk= .int .i64 m/\m=s+4*k/\aH w wr) (λ_ i _=>l.length - (intOf i).toNat)
 case atStart=>exact Tp
 case round=>
  open arX in exact E8
def jV (k:Nat):Rq:=⟨(k:Int),mark (k+1),(k:Int)+2,(k:Int)+3⟩
theorem GR.W.fourReq {a:Option Addr} {l:List Rq} (h:GR.W aL 4 w a g l) (i:Nat) (hi:i < l.length):a=some ⟨g,0,none⟩/\g < w.heap.size/\(w.cell? ⟨g,i*4,none⟩=some (.int .i64 l[i].no)/\w.cell? ⟨g,i*4+1,none⟩=some (.string l[i].k)/\w.cell? ⟨g,i*4+2,none⟩=some (.int .i64 l[i].n)/\w.cell? ⟨g,i*4+3,none⟩=some (.int .i64 l[i].s))/\w.frozen? ⟨g,i*4,none⟩=false/\w.frozen? ⟨g,i*4+1,none⟩=false/\w.frozen? ⟨g,i*4+2,none⟩=false/\w.frozen? ⟨g,i*4+3,none⟩=false:=by
 exact aez
theorem acQ (g c s:Nat) (l:List Rq) (w:World) (hs0:0 < s) (hs1:s<=4000000000000000) (hl:l.length<=1048600) (ha:GR.W aL 4 w a g l):
 Calls prog 75 #[.slice a l.length c,.int .i64 s] w λe w'=>e= .returned (.int .i64 (s+4*(l.length:Int)))/\GR.W aL 4 w' a g (jW jV 4 s l l.length)/\aA (fp g l) w w':=by
 have HA:=Hq ha;clear ha;go_in
 go_wp2_with fail;go_loopw [1,5] (λkk i wr=>∃k m:Nat,k<=l.length/\i= .int .i64 k/\kk= .int .i64 m/\m=s+4*k/\GR.W aL 4 wr a g (jW jV 4 s l k)/\aA (fp g l) w wr) (λ_ i _=>l.length - (intOf i).toNat)
 case atStart=>exact X9
 case round=>
  open apE in exact Te
theorem abW (g c n s:Nat) (l:List Rq) (w:World) (hn:n=l.length) (hs0:0 < s) (hs1:s<=4000000000000000) (hl:l.length<=1048600) (ha:GR.W aL 4 w a g (jW jV 4 s l l.length)):
 Calls prog 80 #[.slice a n c,.int .i64 s] w (dU w (.int .i64 (s+4*(l.length:Int)))):=by
 have HA:=Hq ha;clear ha;subst hn;go_in
 go_wp2_with fail;go_loopw [1,5] (λkk i wr=>∃k m:Nat,k<=l.length/\i= .int .i64 k/\kk= .int .i64 m/\m=s+4*k/\aH w wr) (λ_ i _=>l.length - (intOf i).toNat)
 case atStart=>exact Tp
 case round=>
  open arW in exact E8
def mkInt (k:Nat):Int:=k
theorem GR.W.one {a:Option Addr} {l:List Int} (h:GR.W bg 1 w a g l) (i:Nat) (hi:i < l.length):a=some ⟨g,0,none⟩/\g < w.heap.size/\w.cell? ⟨g,i,none⟩=some (.int .i64 l[i])/\w.frozen? ⟨g,i,none⟩=false:=by
 obtain⟨e,hg,hc⟩:=h i hi;exact⟨e,hg,by simpa using(hc 0 Aaa).1,by simpa using(hc 0 Aaa).2⟩
theorem acO (g c s:Nat) (l:List Int) (w:World) (hs0:0 < s) (hs1:s<=4000000000000000) (hl:l.length<=1048600) (ha:GR.W bg 1 w a g l):
 Calls prog 71 #[.slice a l.length c,.int .i64 s] w λe w'=>e= .returned (.int .i64 (s+(l.length:Int)))/\GR.W bg 1 w' a g (jW mkInt 1 s l l.length)/\aA (fp g l) w w':=by
 have HA:=Hq ha;clear ha;go_in
 go_wp2_with fail;go_loopw [1,5] (λkk i wr=>∃k m:Nat,k<=l.length/\i= .int .i64 k/\kk= .int .i64 m/\m=s+1*k/\GR.W bg 1 wr a g (jW mkInt 1 s l k)/\aA (fp g l) w wr) (λ_ i _=>l.length - (intOf i).toNat)
 case atStart=>exact X9
 case round=>
  open apD in exact Te
theorem abU (g c n s:Nat) (l:List Int) (w:World) (hn:n=l.length) (hs0:0 < s) (hs1:s<=4000000000000000) (hl:l.length<=1048600) (ha:GR.W bg 1 w a g (jW mkInt 1 s l l.length)):
 Calls prog 76 #[.slice a n c,.int .i64 s] w (dU w (.int .i64 (s+(l.length:Int)))):=by
 have HA:=Hq ha;clear ha;subst hn;go_in
 go_wp2_with fail;go_loopw [1,5] (λkk i wr=>∃k m:Nat,k<=l.length/\i= .int .i64 k/\kk= .int .i64 m/\m=s+1*k/\aH w wr) (λ_ i _=>l.length - (intOf i).toNat)
 case atStart=>exact Tp
 case round=>
  open arV in exact E8
def mSn (s:Nat) (x:Sn):Sn:=⟨(s:Int),(s:Int)+1,jW mkInt 1 (s+2) x.ids x.ids.length⟩
def eSn (s:Nat) (x:Sn):Nat:=s+2+x.ids.length
def lF:Nat->List Sn->List Sn
 |_,[]=>[]
 |s,x::r=>mSn s x::lF (eSn s x) r
def jl:Nat->List Sn->Nat
 |s,[]=>s
 |s,x::r=>jl (eSn s x) r
theorem Ut (s:Nat) (l:List Sn) (x:Sn):lF s (l++[x])=lF s l++[mSn (jl s l) x]:=by
 induction l generalizing s with
 |nil=>rfl
 |cons y l ih=>simp[lF,jl,ih]
theorem Fv (s:Nat) (l:List Sn) (x:Sn):jl s (l++[x])=eSn (jl s l) x:=by
 induction l generalizing s with
 |nil=>rfl
 |cons y l ih=>simp[jl,ih]
theorem jE (s:Nat) (l:List Sn):(lF s l).length=l.length:=by
 induction l generalizing s with
 |nil=>rfl
 |cons y l ih=>simp[lF,ih]
theorem WW (s:Nat) (x:Sn):(mSn s x).ids.length=x.ids.length:=fD mkInt 1 (s+2) x.ids x.ids.length (aER _)
theorem Al (s b:Nat) (l:List Sn) (h:∀x∈l,x.ids.length<=b):s<=jl s l/\jl s l<=s+l.length*(b+2):=by
 induction l generalizing s with
 |nil=>simp[jl]
 |cons y l ih=>
  have h1:=h y Aac;have h2:=ih (eSn s y) (λx hx=>h x (aGU _ hx));simp only[jl,aGe,aGC,Nat.one_mul];unfold eSn at *;omega
def ED (s:Nat) (l:List Sn) (k:Nat):List Sn:=lF s (l.take k)++l.drop k
theorem uX (s:Nat) (l:List Sn) (k:Nat) (hk:k<=l.length):(ED s l k).length=l.length:=by simp[ED,jE];omega
theorem acJ (s:Nat) (l:List Sn):ED s l 0=l:=rfl
theorem afq (s:Nat) (l:List Sn):ED s l l.length=lF s l:=by simp[ED]
theorem acI (s:Nat) (l:List Sn) (k:Nat) (hk:k < l.length):(ED s l k)[k]'(by rw [uX s l k Aaa];exact hk)=l[k]:=by
 unfold ED;have h1:(lF s (l.take k)).length=k:=by rw [jE];simp;omega
 rw [List.getElem_append_right Aaa];simp[h1]
theorem WV (s:Nat) (l:List Sn) (k:Nat) (hk:k < l.length):(ED s l k).set k (mSn (jl s (l.take k)) l[k])=ED s l (k+1):=by
 have h1:(lF s (l.take k)).length=k:=by rw [jE];simp;omega
 have e:l.drop k=l[k]::l.drop (k+1):=aFD hk;unfold ED;rw [e,aGg _ _ Aaa,h1,Nat.sub_self,List.set_cons_zero,aE0 hk,Ut,aFx];rfl
theorem xG {l':List Sn} (hl:l.length=l'.length) (h:∀i (h1:i < l.length) (h2:i < l'.length),l[i].ids.length=l'[i].ids.length):nI I l=nI I l':=by
 unfold nI;rw [hl]
 have:∀i∈List.range l'.length,fp (I i) (l.getD i default).ids=fp (I i) (l'.getD i default).ids:=λi hi=>by
  have h2:=aFU.1 hi
  have h1:i < l.length:=Aaa
  apply LZ
  rw [aFs,aEV h1,aFs,aEV h2]
  exact h i h1 h2
 rw [List.flatMap_def,List.flatMap_def,List.map_congr_left this]
theorem eB.put {a:Option Addr} (h:eB w a g I l) (k:Nat) (hk:k < l.length) (f lo:Int) (hne:∀x∈nI I l,x≠g):
 eB ((w.setCell ⟨g,k*3,none⟩ (.int .i64 f)).setCell ⟨g,k*3+1,none⟩ (.int .i64 lo)) a g I (l.set k ⟨f,lo,l[k].ids⟩):=by
 obtain⟨T,hT,hl,hr⟩:=h;obtain⟨b,c,ht,hi2⟩:=hr k hk;have Sm:k < T.length:=Aaa
 have htk:T[k]=⟨l[k].f,l[k].l,.slice b l[k].ids.length c⟩:=by
  rw [aEV Sm] at ht;exact aFI ht
 have hC:=((GR.W.toC bE Aaa hT).set (k*3) (.int .i64 f)).set (k*3+1) (.int .i64 lo);have hf:=GR.flat_set eX 3 bE T k ⟨f,lo,.slice b l[k].ids.length c⟩ Sm;have h3:(((GR.flat eX T).set (k*3) (.int .i64 f)).set (k*3+1) (.int .i64 lo)).set (k*3+2) (.slice b l[k].ids.length c)=GR.flat eX (T.set k ⟨f,lo,.slice b l[k].ids.length c⟩):=hf;have hat:=GR.flat_at eX 3 bE T k Sm 2 Aaa;rw [htk] at hat
 have h4:((GR.flat eX T).set (k*3) (.int .i64 f)).set (k*3+1) (.int .i64 lo)=GR.flat eX (T.set k ⟨f,lo,.slice b l[k].ids.length c⟩):=by
  rw [<-h3];apply List.ext_getElem?
  intro j;by_cases hj:j=k*3+2
  .subst hj;have hlt:k*3+2 < (GR.flat eX T).length:=by rw [GR.flat_length eX 3 bE];omega
   rw [aGx (by simpa using hlt),aGa Aaa,aGa Aaa,hat];rfl
  .rw [aGa (i:=k*3+2) Aaa]
 rw [h4] at hC;have hK:aA [g] w ((w.setCell ⟨g,k*3,none⟩ (.int .i64 f)).setCell ⟨g,k*3+1,none⟩ (.int .i64 lo)):=(aA.set _).trans (aA.set _);refine⟨T.set k ⟨f,lo,.slice b l[k].ids.length c⟩,GR.C.toW bE Aaa hC,by simpa using hl,λi hi=>?_⟩;have hi':i < l.length:=Aat
 by_cases hik:i=k
 .subst hik;refine⟨b,c,?_,?_⟩
  .rw [aGx Sm];simp
  .rw [aFo];exact hi2.keeps hK (λx hx=>by simpa using hne x (jD hi' x hx))
 .obtain⟨b',c',ht',hi3⟩:=hr i hi';refine⟨b',c',?_,?_⟩
  .rw [aGa Aaa,ht',aFq Aaa]
  .rw [aFq Aaa];exact hi3.keeps hK (λx hx=>by simpa using hne x (jD hi' x hx))
theorem abF (hnd:(nI I l).Nodup) {i k:Nat} (hi:i < l.length) (hk:k < l.length) (hik:i≠k) (h1:0 < l[i].ids.length) (h2:0 < l[k].ids.length):I i≠I k:=by
 intro he;have hd:∀j (hj:j < l.length),l.getD j default=l[j]:=λj hj=>by rw [aFs,aEV hj];rfl
 have key:∀a b,a < b->b < l.length->0 < (l.getD a default).ids.length->0 < (l.getD b default).ids.length->I a≠I b:=by
  intro a b hab hb ha1 hb1 hI;unfold nI at hnd
  have e1:List.range l.length=List.range b++(List.range (l.length - b)).map (b+·):=by
   rw [<-List.range_add];congr 1
   omega
  rw [e1,List.flatMap_append,aF1] at hnd;refine hnd.2.2 (I a) ?_ (I b) ?_ hI
  .rw [aGf];exact⟨a,aFU.2 hab,dK ha1⟩
  .rw [aGf];exact⟨b,aGq.2 ⟨0,aFU.2 Aaa,Aac⟩,dK hb1⟩
 rcases Nat.lt_or_gt_of_ne hik with h|h
 .exact key i k h hk (by rw [hd i hi];exact h1) (by rw [hd k hk];exact h2) he
 .exact key k i h hi (by rw [hd k hk];exact h2) (by rw [hd i hi];exact h1) he.symm
theorem eB.ids {a:Option Addr} (h:eB w a g I l) (k:Nat) (hk:k < l.length) (b:Option Addr) (c:Nat) (ids:List Int) (hb:w.cell? ⟨g,k*3+2,none⟩=some (.slice b l[k].ids.length c)) (hlen:ids.length=l[k].ids.length) (hw:GR.W bg 1 w' b (I k) ids) (hK:aA (fp (I k) l[k].ids) w w') (hne:∀x∈nI I l,x≠g) (hnd:(nI I l).Nodup):eB w' a g I (l.set k ⟨l[k].f,l[k].l,ids⟩):=by
 obtain⟨T,hT,hl,hr⟩:=h;have Sm:k < T.length:=Aaa
 have aCk:∀x∈fp (I k) l[k].ids,x∈nI I l:=jD hk
 have hT':GR.W eX 3 w' a g T:=hT.keeps hK (λx hx hx2=>by
  rw [(dw hx).1] at hx2
  exact hne _ (aCk _ hx2) rfl)
 refine⟨T,hT',by simpa using hl,λi hi=>?_⟩;have hi':i < l.length:=Aat
 obtain⟨b',c',ht',hi3⟩:=hr i hi';by_cases hik:i=k
 .subst hik;obtain⟨_,_,hc⟩:=hT i Sm;have h2:=(hc 2 Aaa).1;rw [aEV Sm] at ht';rw [aFI ht'] at h2;have h2':w.cell? ⟨g,i*3+2,none⟩=some (.slice b' l[i].ids.length c'):=h2;rw [hb] at h2';injection h2' with h2'
  injection h2' with e1 e2 e3
  subst e1 e3;refine⟨b,c,?_,?_⟩
  .rw [aEV Sm,aFI ht',aFo];simp[hlen]
  .rw [aFo];exact hw
 .refine⟨b',c',?_,?_⟩
  .rw [ht',aFq Aaa]
  .rw [aFq Aaa];refine hi3.keeps hK (λx hx hx2=>?_);have e1:=(dw hx).1;have e2:=(dw hx2).1;have hIk:I i=I k:=by rw [<-e1,<-e2]
   exact abF hnd hi' hk hik (dw hx).2 (dw hx2).2 hIk
theorem Qt (g c s:Nat) (z:Int) (l:List Int) (w:World) (hz:z=(s:Int)) (hs0:0 < s) (hs1:s<=4000000000000000) (hl:l.length<=1048600) (ha:GR.W bg 1 w a g l):
 Calls prog 71 #[.slice a l.length c,.int .i64 z] w λe w'=>e= .returned (.int .i64 (s+(l.length:Int)))/\GR.W bg 1 w' a g (jW mkInt 1 s l l.length)/\aA (fp g l) w w':=by
 subst hz;exact acO a g c s l w hs0 hs1 hl ha
theorem PE (g c n s:Nat) (z:Int) (l:List Int) (w:World) (hz:z=(s:Int)) (hn:n=l.length) (hs0:0 < s) (hs1:s<=4000000000000000) (hl:l.length<=1048600) (ha:GR.W bg 1 w a g (jW mkInt 1 s l l.length)):
 Calls prog 76 #[.slice a n c,.int .i64 z] w (dU w (.int .i64 (s+(l.length:Int)))):=by
 subst hz;exact abU a g c n s l w hn hs0 hs1 hl ha
theorem Qr (s:Nat) (l:List Sn) (k:Nat) (hk:k < l.length):(lF s l)[k]'(by rw [jE];exact hk)=mSn (jl s (l.take k)) l[k]:=by
 induction l generalizing s k with
 |nil=>simp at hk
 |cons y l ih=>
  cases k with
  |zero=>rfl
  |succ k=>
   simp only[lF,List.getElem_cons_succ,List.take_succ_cons,jl];exact ih (eSn s y) k Ace
theorem WU (s:Nat) (l:List Sn) (k:Nat) (hk:k<=l.length):∀i (h1:i < (ED s l k).length) (h2:i < l.length),((ED s l k)[i]).ids.length=(l[i]).ids.length:=by
 induction k with
 |zero=>intro i h1 h2;rfl
 |succ k ih=>
  intro i h1 h2;have hk':k < l.length:=Aaa
  have e:=WV s l k hk';have h3:i < ((ED s l k).set k (mSn (jl s (l.take k)) l[k])).length:=by rw [e];exact h1
  have h4:(ED s l (k+1))[i]=((ED s l k).set k (mSn (jl s (l.take k)) l[k]))[i]'h3:=by simp only[e]
  rw [h4];by_cases hik:i=k
  .subst hik;rw [aFo,WW]
  .rw [aFq Aaa];exact ih Aaa i Acf h2
theorem eB.three {a:Option Addr} (h:eB w a g I l) (i:Nat) (hi:i < l.length):∃b c,a=some ⟨g,0,none⟩/\g < w.heap.size/\(w.cell? ⟨g,i*3,none⟩=some (.int .i64 l[i].f)/\w.cell? ⟨g,i*3+1,none⟩=some (.int .i64 l[i].l)/\w.cell? ⟨g,i*3+2,none⟩=some (.slice b l[i].ids.length c))/\(w.frozen? ⟨g,i*3,none⟩=false/\w.frozen? ⟨g,i*3+1,none⟩=false)/\GR.W bg 1 w b (I i) l[i].ids:=by
 obtain⟨T,hT,hl,hr⟩:=h;obtain⟨b,c,ht,hi2⟩:=hr i hi;have Sm:i < T.length:=Aaa
 obtain⟨e,hg,hc⟩:=hT i Sm;rw [aEV Sm] at ht;rw [aFI ht] at hc;exact⟨b,c,e,hg,⟨by simpa using(hc 0 Aaa).1,by simpa using(hc 1 Aaa).1,by simpa using(hc 2 Aaa).1⟩,⟨by simpa using(hc 0 Aaa).2,(hc 1 Aaa).2⟩,hi2⟩
theorem YK (g c s:Nat) (I:Nat->Nat) (l:List Sn) (w:World) (hs0:0 < s) (hs1:s<=1000000000000000) (hl:l.length<=1048600) (hl2:∀x∈l,x.ids.length<=1048600) (hnd:(fp g l++nI I l).Nodup) (ha:eB w a g I l):
 Calls prog 74 #[.slice a l.length c,.int .i64 s] w λe w'=>e= .returned (.int .i64 (jl s l:Nat))/\eB w' a g I (lF s l)/\aA (fp g l++nI I l) w w':=by
 have HA:=Hq ha;have HL2:=Hq hl2;have HND:=Hq (aF1.1 hnd);clear ha hl2 hnd;go_in
 go_wp2_with fail;go_loopw [1,5] (λkk i wr=>∃k m:Nat,k<=l.length/\i= .int .i64 k/\kk= .int .i64 m/\m=jl s (l.take k)/\eB wr a g I (ED s l k)/\aA (fp g l++nI I l) w wr) (λ_ i _=>l.length - (intOf i).toNat)
 case atStart=>exact⟨0,s,aE7 _,rfl,rfl,rfl,by rw [acJ];exact HA,aA.refl _ _⟩
 case round=>
  open apH in exact Te
theorem Yr (g c n s:Nat) (I:Nat->Nat) (l:List Sn) (w:World) (hn:n=l.length) (hs0:0 < s) (hs1:s<=1000000000000000) (hl:l.length<=1048600) (hl2:∀x∈l,x.ids.length<=1048600) (ha:eB w a g I (lF s l)):
 Calls prog 79 #[.slice a n c,.int .i64 s] w (dU w (.int .i64 (jl s l:Nat))):=by
 have HA:=Hq ha;have HL2:=Hq hl2;clear ha hl2;subst hn;go_in
 go_wp2_with fail;go_loopw [1,5] (λkk i wr=>∃k m:Nat,k<=l.length/\i= .int .i64 k/\kk= .int .i64 m/\m=jl s (l.take k)/\aH w wr) (λ_ i _=>l.length - (intOf i).toNat)
 case atStart=>exact Tp
 case round=>
  open arZ in exact E8
theorem Uw (g c s:Nat) (z:Int) (l:List Pu) (w:World) (hz:z=(s:Int)) (hs0:0 < s) (hs1:s<=4000000000000000) (hl:l.length<=1048600) (ha:GR.W fA 4 w a g l):
 Calls prog 72 #[.slice a l.length c,.int .i64 z] w λe w'=>e= .returned (.int .i64 (s+4*(l.length:Int)))/\GR.W fA 4 w' a g (jW gF 4 s l l.length)/\aA (fp g l) w w':=by
 subst hz;exact Uv a g c s l w hs0 hs1 hl ha
theorem YQ (g c s:Nat) (z:Int) (l:List jI) (w:World) (hz:z=(s:Int)) (hs0:0 < s) (hs1:s<=4000000000000000) (hl:l.length<=1048600) (ha:GR.W aM 4 w a g l):
 Calls prog 73 #[.slice a l.length c,.int .i64 z] w λe w'=>e= .returned (.int .i64 (s+4*(l.length:Int)))/\GR.W aM 4 w' a g (jW iF 4 s l l.length)/\aA (fp g l) w w':=by
 subst hz;exact YN a g c s l w hs0 hs1 hl ha
theorem acR (g c s:Nat) (z:Int) (l:List Rq) (w:World) (hz:z=(s:Int)) (hs0:0 < s) (hs1:s<=4000000000000000) (hl:l.length<=1048600) (ha:GR.W aL 4 w a g l):
 Calls prog 75 #[.slice a l.length c,.int .i64 z] w λe w'=>e= .returned (.int .i64 (s+4*(l.length:Int)))/\GR.W aL 4 w' a g (jW jV 4 s l l.length)/\aA (fp g l) w w':=by
 subst hz;exact acQ a g c s l w hs0 hs1 hl ha
theorem YL (g c s:Nat) (z:Int) (I:Nat->Nat) (l:List Sn) (w:World) (hz:z=(s:Int)) (hs0:0 < s) (hs1:s<=1000000000000000) (hl:l.length<=1048600) (hl2:∀x∈l,x.ids.length<=1048600) (hnd:(fp g l++nI I l).Nodup) (ha:eB w a g I l):
 Calls prog 74 #[.slice a l.length c,.int .i64 z] w λe w'=>e= .returned (.int .i64 (jl s l:Nat))/\eB w' a g I (lF s l)/\aA (fp g l++nI I l) w w':=by
 subst hz;exact YK a g c s I l w hs0 hs1 hl hl2 hnd ha
theorem Ub (g c n s:Nat) (z:Int) (l:List Pu) (w:World) (hz:z=(s:Int)) (hn:n=l.length) (hs0:0 < s) (hs1:s<=4000000000000000) (hl:l.length<=1048600) (ha:GR.W fA 4 w a g (jW gF 4 s l l.length)):
 Calls prog 77 #[.slice a n c,.int .i64 z] w (dU w (.int .i64 (s+4*(l.length:Int)))):=by
 subst hz;exact Ua a g c n s l w hn hs0 hs1 hl ha
theorem Yv (g c n s:Nat) (z:Int) (l:List jI) (w:World) (hz:z=(s:Int)) (hn:n=l.length) (hs0:0 < s) (hs1:s<=4000000000000000) (hl:l.length<=1048600) (ha:GR.W aM 4 w a g (jW iF 4 s l l.length)):
 Calls prog 78 #[.slice a n c,.int .i64 z] w (dU w (.int .i64 (s+4*(l.length:Int)))):=by
 subst hz;exact Yu a g c n s l w hn hs0 hs1 hl ha
theorem abX (g c n s:Nat) (z:Int) (l:List Rq) (w:World) (hz:z=(s:Int)) (hn:n=l.length) (hs0:0 < s) (hs1:s<=4000000000000000) (hl:l.length<=1048600) (ha:GR.W aL 4 w a g (jW jV 4 s l l.length)):
 Calls prog 80 #[.slice a n c,.int .i64 z] w (dU w (.int .i64 (s+4*(l.length:Int)))):=by
 subst hz;exact abW a g c n s l w hn hs0 hs1 hl ha
theorem Yt (g c n s:Nat) (z:Int) (I:Nat->Nat) (l:List Sn) (w:World) (hz:z=(s:Int)) (hn:n=l.length) (hs0:0 < s) (hs1:s<=1000000000000000) (hl:l.length<=1048600) (hl2:∀x∈l,x.ids.length<=1048600) (ha:eB w a g I (lF s l)):
 Calls prog 79 #[.slice a n c,.int .i64 z] w (dU w (.int .i64 (jl s l:Nat))):=by
 subst hz;exact Yr a g c n s I l w hn hs0 hs1 hl hl2 ha
theorem kD {mk:Nat->α} {c:Nat} {l:List α} (h:x∈fp g (jW mk c s l l.length)):x∈fp g l:=by
 rw [LZ (fD mk c s l l.length (aER _))] at h;exact h
theorem ai5 (h:x∈fp g (lF s l)):x∈fp g l:=by
 rw [LZ (jE s l)] at h;exact h
theorem abG (h:x∈nI I (lF s l)):x∈nI I l:=by
 rw [xG (jE s l) (λi h1 h2=>by rw [Qr s l i h2,WW])] at h;exact h
theorem eB.below {a:Option Addr} (h:eB w a g I l) (hb:aH w w'):eB w' a g I l:=h.keeps (F:=[]) (aA.of_below hb) (λ_ _=>Aac) (λ_ _=>Aac)
theorem XJ {a:Option Addr} {l:List α} (h:GR.W enc sz w a g l):∀x∈fp g l,x < w.heap.size:=λx hx=>by
 rw [(dw hx).1];exact(h 0 (dw hx).2).2.1
theorem aaA {a:Option Addr} (h:eB w a g I l):∀x∈fp g l++nI I l,x < w.heap.size:=λx hx=>by
 obtain⟨T,hT,hl,hr⟩:=h;rcases aFb.1 hx with hx|hx
 .rw [(dw hx).1];exact(hT 0 (by have:=(dw hx).2;omega)).2.1
 .obtain⟨i,hi,rfl,hp⟩:=sV hx;obtain⟨b,c,_,hi2⟩:=hr i hi;exact(hi2 0 hp).2.1
def sPk (s0:Nat) (n:Nd):Nat:=s0+n.kids.length
def sOk (s0:Nat) (n:Nd):Nat:=sPk s0 n+4*n.pu.length
def QX (s0:Nat) (n:Nd):Nat:=sOk s0 n+4*n.out.length
def sRk (s0:Nat) (n:Nd):Nat:=jl (QX s0 n) n.seen
def eO (s0:Nat) (n:Nd):Nat:=sRk s0 n+4*n.reqs.length
def sQ (s0:Nat) (n:Nd):Nd:=⟨n.id,n.par,jW mkInt 1 s0 n.kids n.kids.length,n.next,jW gF 4 (sPk s0 n) n.pu n.pu.length,jW iF 4 (sOk s0 n) n.out n.out.length,lF (QX s0 n) n.seen,n.old,jW jV 4 (sRk s0 n) n.reqs n.reqs.length⟩
theorem Y6 {s0:Nat} (h0:0 < s0) (h1:s0<=900000000000000) (hz:eG n 1048600):0 < sPk s0 n/\sPk s0 n<=910000000000000/\0 < sOk s0 n/\sOk s0 n<=920000000000000/\0 < QX s0 n/\QX s0 n<=1000000000000000/\0 < sRk s0 n/\sRk s0 n<=2000000000000000:=by
 have h:=Al (QX s0 n) 1048600 n.seen hz.sk;have h1:=hz.k;have h2:=hz.p;have h3:=hz.o;have h4:=hz.s;unfold sRk;generalize jl (QX s0 n) n.seen=z at *;unfold QX sOk sPk at *;omega
theorem Kl (s0:Nat) (h0:0 < s0) (h1:s0<=900000000000000) (n:Nd) (A:bq) (G:aN) (w:World) (hz:eG n 1048600) (hnd:(G.all n).Nodup) (ha:gZ w A G n):
 Calls prog 34 #[gU n A,.int .i64 s0] w λe w'=>e= .returned (.int .i64 (eO s0 n:Nat))/\gZ w' A G (sQ s0 n)/\aA (G.all n) w w':=by
 have hb0:=au w (.cells (dD n A) 39);open atx in exact agL
theorem Kg (s0:Nat) (h0:0 < s0) (h1:s0<=900000000000000) (n:Nd) (A:bq) (G:aN) (w:World) (hz:eG n 1048600) (ha:gZ w A G (sQ s0 n)):
 Calls prog 36 #[gU n A,.int .i64 s0] w (dU w (.int .i64 (eO s0 n:Nat))):=by
 open atw in exact agL
theorem all_mk {G:aN} (h:x∈G.all (sQ s n)):x∈G.all n:=by
 rcases aN.mem_all.1 h with h1|h1|h1|h1|h1|h1
 .exact aN.mem_all.2 (.inl (kD h1))
 .exact aN.mem_all.2 (.inr (.inl (kD h1)))
 .exact aN.mem_all.2 (.inr (.inr (.inl (kD h1))))
 .exact aN.mem_all.2 (.inr (.inr (.inr (.inl (ai5 h1)))))
 .exact aN.mem_all.2 (.inr (.inr (.inr (.inr (.inl (abG h1))))))
 .exact aN.mem_all.2 (.inr (.inr (.inr (.inr (.inr (kD h1))))))
theorem Fu (hz:eG n 1048576) (hs:0 < s):0 < eO s n:=by
 have h:=(Al (QX s n) 1048576 n.seen hz.sk).1;exact aiW
structure Ev (S:Nat->Prop) (w w':World):Prop where
 os:w'.os=w.os
 tape:w'.tape=w.tape
 output:w'.output=w.output
 size:w.heap.size<=w'.heap.size
 block:∀k,k < w.heap.size->¬S k->w'.heap[k]?=w.heap[k]?
 cell:∀g o,(w.cell? ⟨g,o,none⟩).isSome=true->(w'.cell? ⟨g,o,none⟩).isSome=true
 froz:∀g o,g < w.heap.size->w'.frozen? ⟨g,o,none⟩=w.frozen? ⟨g,o,none⟩
theorem Ev.refl (S:Nat->Prop) (w:World):Ev S w w:=⟨rfl,rfl,rfl,aER _,λ_ _ _=>rfl,λ_ _ h=>h,λ_ _ _=>rfl⟩
theorem Ev.trans {a c:World} (h:Ev S a b) (k:Ev S b c):Ev S a c:=
 ⟨k.os.trans h.os,k.tape.trans h.tape,k.output.trans h.output,aEU h.size k.size,λi hi hS=>(k.block i (aEZ hi h.size) hS).trans (h.block i hi hS),λg o hc=>k.cell g o (h.cell g o hc),λg o hg=>(k.froz g o (aEZ hg h.size)).trans (h.froz g o hg)⟩
theorem Ev.mono {a:World} (h:Ev S a b) (hs:∀x,S x->S' x):Ev S' a b:=⟨h.os,h.tape,h.output,h.size,λi hi hS=>h.block i hi (λhx=>hS (hs i hx)),h.cell,h.froz⟩
theorem Ev.of_below (h:aH w w'):Ev S w w':=
 ⟨h.os,h.tape,h.output,h.size,λk hk _=>h.block k hk,λg o hc=>by
  obtain⟨v,hv⟩:=Option.isSome_iff_exists.1 hc
  have hg:=aFT w _ hv
  rw [h.cell (p:=⟨g,o,none⟩) hg]
  exact hc,λg o hg=>h.frozen (p:=⟨g,o,none⟩) hg⟩
theorem Ev.below {a c:World} (h:Ev S a b) (hb:aH b c):Ev S a c:=h.trans (Ev.of_below hb)
theorem Un (w:World) (p:Addr) (v:Value) (a:Addr) (h:(w.cell? a).isSome=true):((w.setCell p v).cell? a).isSome=true:=by
 obtain⟨u,hu⟩:=Option.isSome_iff_exists.1 h;by_cases e:p=a
 .subst e;rw [aGA _ _ _ hu];rfl
 .rw [aF0 _ _ _ _ e,hu];rfl
theorem Ev.set {a:World} (h:Ev S a b) (hS:S g) (o:Nat) (v:Value):Ev S a (b.setCell ⟨g,o,none⟩ v):=
 h.trans ⟨rfl,rfl,rfl,Aaq,λk _ hk=>aFe _ _ _ _ (λe=>hk (by simpa [e] using hS)),λg' o' hc=>Un b _ v _ hc,λg' o' _=>by rw [World.frozen?_setCell]⟩
theorem Ev.under {a:World} {B:Nat} (h:Ev S a b) (hS:∀x,S x->B<=x) (hB:B<=a.heap.size):Below B a b:=⟨h.os,h.tape,h.output,h.size,λk hk=>h.block k Aaa (λhx=>by have:=hS k hx;omega)⟩
theorem Ev.obj {o:Obj} (h:Ev S w w') (ho:w.heap[g]?=some o) (hg:¬S g):w'.heap[g]?=some o:=by
 rw [h.block g (ay ho) hg];exact ho
def Wr (S:Nat->Prop) (w:World) (a:Option Addr) (n sz:Nat):Prop:=∀i,i < n->∃g,a=some ⟨g,0,none⟩/\S g/\g < w.heap.size/\∀j,j < sz->(w.cell? ⟨g,i*sz+j,none⟩).isSome=true/\w.frozen? ⟨g,i*sz+j,none⟩=false
theorem Wr.mono {a:Option Addr} {n:Nat} (h:Wr S w a n sz) (hs:∀x,S x->S' x):Wr S' w a n sz:=λi hi=>by
 obtain⟨g,e,hS,hg,hc⟩:=h i hi;exact⟨g,e,hs g hS,hg,hc⟩
theorem Wr.of_W {a:Option Addr} {l:List α} (hs:∀x,(enc x).length=sz) (h:GR.W enc sz w a g l) (hS:0 < l.length->S g):Wr S w a l.length sz:=λi hi=>by
 obtain⟨e,hg,hc⟩:=h i hi;refine⟨g,e,hS Aaa,hg,λj hj=>⟨?_,(hc j hj).2⟩⟩;rw [(hc j hj).1,aEV (by rw [hs];exact hj)];rfl
theorem Wr.of_blk {t:TypeId} {l:List α} (hs:∀x,(enc x).length=sz) (h:GR.Blk enc t w g l) (hS:S g):Wr S w (some ⟨g,0,none⟩) l.length sz:=Wr.of_W hs (GR.W.of_blk hs h) (λ_=>hS)
end Go.Proofs.YtbolgdleijjgfaaGreatDoor
