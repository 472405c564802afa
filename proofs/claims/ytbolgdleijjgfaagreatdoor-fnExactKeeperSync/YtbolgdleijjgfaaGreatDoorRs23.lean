/- Parts. -/
import Derived.Test.YtbolgdleijjgfaaGreatDoorRs20
import Derived.Test.YtbolgdleijjgfaaGreatDoorRs3
namespace Go.Proofs.YtbolgdleijjgfaaGreatDoor
open Go.Proofs.Tryz
set_option maxHeartbeats 4000000
set_option maxRecDepth 100000
open Go.RowKit
open Mth
variable (a:Option Addr) {w w':World} {mb n g s x:Nat} {l:List Sn} {I:Nat->Nat} {α:Type} {D:DataW Unit}
def mSn (s:Nat) (x:Sn):Sn:=⟨(s:Int),(s:Int)+1,jH mkInt 1 (s+2) x.ids x.ids.length⟩
def eSn (s:Nat) (x:Sn):Nat:=s+2+x.ids.length
def kU:Nat->List Sn->List Sn
 |_,[]=>[]
 |s,x::r=>mSn s x::kU (eSn s x) r
def jd:Nat->List Sn->Nat
 |s,[]=>s
 |s,x::r=>jd (eSn s x) r
theorem Um (s:Nat) (l:List Sn) (x:Sn):kU s (l++[x])=kU s l++[mSn (jd s l) x]:=by
 induction l generalizing s with
 |nil=>rfl
 |cons y l ih=>simp[kU,jd,ih]
theorem E9 (s:Nat) (l:List Sn) (x:Sn):jd s (l++[x])=eSn (jd s l) x:=by
 induction l generalizing s with
 |nil=>rfl
 |cons y l ih=>simp[jd,ih]
theorem jy (s:Nat) (l:List Sn):(kU s l).length=l.length:=by
 induction l generalizing s with
 |nil=>rfl
 |cons y l ih=>simp[kU,ih]
theorem WV (s:Nat) (x:Sn):(mSn s x).ids.length=x.ids.length:=fA mkInt 1 (s+2) x.ids x.ids.length (aEM _)
theorem Ac (s b:Nat) (l:List Sn) (h:∀x∈l,x.ids.length<=b):s<=jd s l/\jd s l<=s+l.length*(b+2):=by
 induction l generalizing s with
 |nil=>simp[jd]
 |cons y l ih=>
  have h1:=h y Aac;have h2:=ih (eSn s y) (λx hx=>h x (aGP _ hx));simp only[jd,aF9,aGx,Nat.one_mul];unfold eSn at *;omega
def Es (s:Nat) (l:List Sn) (k:Nat):List Sn:=kU s (l.take k)++l.drop k
theorem uU (s:Nat) (l:List Sn) (k:Nat) (hk:k<=l.length):(Es s l k).length=l.length:=by simp[Es,jy];omega
theorem acM (s:Nat) (l:List Sn):Es s l 0=l:=rfl
theorem afB (s:Nat) (l:List Sn):Es s l l.length=kU s l:=by simp[Es]
theorem acL (s:Nat) (l:List Sn) (k:Nat) (hk:k < l.length):(Es s l k)[k]'(by rw [uU s l k Aaa];exact hk)=l[k]:=by
 unfold Es;have h1:(kU s (l.take k)).length=k:=by rw [jy];simp;omega
 rw [List.getElem_append_right Aaa];simp[h1]
theorem WU (s:Nat) (l:List Sn) (k:Nat) (hk:k < l.length):(Es s l k).set k (mSn (jd s (l.take k)) l[k])=Es s l (k+1):=by
 have h1:(kU s (l.take k)).length=k:=by rw [jy];simp;omega
 have e:l.drop k=l[k]::l.drop (k+1):=aFy hk;unfold Es;rw [e,aGb _ _ Aaa,h1,Nat.sub_self,List.set_cons_zero,aEV hk,Um,aFr];rfl
theorem xA {l':List Sn} (hl:l.length=l'.length) (h:∀i (h1:i < l.length) (h2:i < l'.length),l[i].ids.length=l'[i].ids.length):mX I l=mX I l':=by
 unfold mX;rw [hl]
 have:∀i∈List.range l'.length,fp (I i) (l.getD i default).ids=fp (I i) (l'.getD i default).ids:=λi hi=>by
  have h2:=aFP.1 hi
  have h1:i < l.length:=Aaa
  apply LQ
  rw [aFl,aEQ h1,aFl,aEQ h2]
  exact h i h1 h2
 rw [List.flatMap_def,List.flatMap_def,List.map_congr_left this]
theorem dZ.put {a:Option Addr} (h:dZ w a g I l) (k:Nat) (hk:k < l.length) (f lo:Int) (hne:∀x∈mX I l,x≠g):
 dZ ((w.setCell ⟨g,k*3,none⟩ (.int .i64 f)).setCell ⟨g,k*3+1,none⟩ (.int .i64 lo)) a g I (l.set k ⟨f,lo,l[k].ids⟩):=by
 obtain⟨T,hT,hl,hr⟩:=h;obtain⟨b,c,ht,hi2⟩:=hr k hk;have Sk:k < T.length:=Aaa
 have htk:T[k]=⟨l[k].f,l[k].l,.slice b l[k].ids.length c⟩:=by
  rw [aEQ Sk] at ht;exact aFD ht
 have hC:=((GR.W.toC bg Aaa hT).set (k*3) (.int .i64 f)).set (k*3+1) (.int .i64 lo);have hf:=GR.flat_set eP 3 bg T k ⟨f,lo,.slice b l[k].ids.length c⟩ Sk;have h3:(((GR.flat eP T).set (k*3) (.int .i64 f)).set (k*3+1) (.int .i64 lo)).set (k*3+2) (.slice b l[k].ids.length c)=GR.flat eP (T.set k ⟨f,lo,.slice b l[k].ids.length c⟩):=hf;have hat:=GR.flat_at eP 3 bg T k Sk 2 Aaa;rw [htk] at hat
 have h4:((GR.flat eP T).set (k*3) (.int .i64 f)).set (k*3+1) (.int .i64 lo)=GR.flat eP (T.set k ⟨f,lo,.slice b l[k].ids.length c⟩):=by
  rw [<-h3];apply List.ext_getElem?
  intro j;by_cases hj:j=k*3+2
  .subst hj;have hlt:k*3+2 < (GR.flat eP T).length:=by rw [GR.flat_length eP 3 bg];omega
   rw [aGr (by simpa using hlt),aF5 Aaa,aF5 Aaa,hat];rfl
  .rw [aF5 (i:=k*3+2) Aaa]
 rw [h4] at hC;have hK:aA [g] w ((w.setCell ⟨g,k*3,none⟩ (.int .i64 f)).setCell ⟨g,k*3+1,none⟩ (.int .i64 lo)):=(aA.set _).trans (aA.set _);refine⟨T.set k ⟨f,lo,.slice b l[k].ids.length c⟩,GR.C.toW bg Aaa hC,by simpa using hl,λi hi=>?_⟩;have hi':i < l.length:=Aas
 by_cases hik:i=k
 .subst hik;refine⟨b,c,?_,?_⟩
  .rw [aGr Sk];simp
  .rw [aFi];exact hi2.keeps hK (λx hx=>by simpa using hne x (jw hi' x hx))
 .obtain⟨b',c',ht',hi3⟩:=hr i hi';refine⟨b',c',?_,?_⟩
  .rw [aF5 Aaa,ht',aFj Aaa]
  .rw [aFj Aaa];exact hi3.keeps hK (λx hx=>by simpa using hne x (jw hi' x hx))
theorem abK (hnd:(mX I l).Nodup) {i k:Nat} (hi:i < l.length) (hk:k < l.length) (hik:i≠k) (h1:0 < l[i].ids.length) (h2:0 < l[k].ids.length):I i≠I k:=by
 intro he;have hd:∀j (hj:j < l.length),l.getD j default=l[j]:=λj hj=>by rw [aFl,aEQ hj];rfl
 have key:∀a b,a < b->b < l.length->0 < (l.getD a default).ids.length->0 < (l.getD b default).ids.length->I a≠I b:=by
  intro a b hab hb ha1 hb1 hI;unfold mX at hnd
  have e1:List.range l.length=List.range b++(List.range (l.length - b)).map (b+·):=by
   rw [<-List.range_add];congr 1
   omega
  rw [e1,List.flatMap_append,aFW] at hnd;refine hnd.2.2 (I a) ?_ (I b) ?_ hI
  .rw [aGa];exact⟨a,aFP.2 hab,dB ha1⟩
  .rw [aGa];exact⟨b,aGk.2 ⟨0,aFP.2 Aaa,Aac⟩,dB hb1⟩
 rcases Nat.lt_or_gt_of_ne hik with h|h
 .exact key i k h hk (by rw [hd i hi];exact h1) (by rw [hd k hk];exact h2) he
 .exact key k i h hi (by rw [hd k hk];exact h2) (by rw [hd i hi];exact h1) he.symm
theorem dZ.ids {a:Option Addr} (h:dZ w a g I l) (k:Nat) (hk:k < l.length) (b:Option Addr) (c:Nat) (ids:List Int) (hb:w.cell? ⟨g,k*3+2,none⟩=some (.slice b l[k].ids.length c)) (hlen:ids.length=l[k].ids.length) (hw:GR.W bf 1 w' b (I k) ids) (hK:aA (fp (I k) l[k].ids) w w') (hne:∀x∈mX I l,x≠g) (hnd:(mX I l).Nodup):dZ w' a g I (l.set k ⟨l[k].f,l[k].l,ids⟩):=by
 obtain⟨T,hT,hl,hr⟩:=h;have Sk:k < T.length:=Aaa
 have aCf:∀x∈fp (I k) l[k].ids,x∈mX I l:=jw hk
 have hT':GR.W eP 3 w' a g T:=hT.keeps hK (λx hx hx2=>by
  rw [(cu hx).1] at hx2
  exact hne _ (aCf _ hx2) rfl)
 refine⟨T,hT',by simpa using hl,λi hi=>?_⟩;have hi':i < l.length:=Aas
 obtain⟨b',c',ht',hi3⟩:=hr i hi';by_cases hik:i=k
 .subst hik;obtain⟨_,_,hc⟩:=hT i Sk;have h2:=(hc 2 Aaa).1;rw [aEQ Sk] at ht';rw [aFD ht'] at h2;have h2':w.cell? ⟨g,i*3+2,none⟩=some (.slice b' l[i].ids.length c'):=h2;rw [hb] at h2';injection h2' with h2'
  injection h2' with e1 e2 e3
  subst e1 e3;refine⟨b,c,?_,?_⟩
  .rw [aEQ Sk,aFD ht',aFi];simp[hlen]
  .rw [aFi];exact hw
 .refine⟨b',c',?_,?_⟩
  .rw [ht',aFj Aaa]
  .rw [aFj Aaa];refine hi3.keeps hK (λx hx hx2=>?_);have e1:=(cu hx).1;have e2:=(cu hx2).1;have hIk:I i=I k:=by rw [<-e1,<-e2]
   exact abK hnd hi' hk hik (cu hx).2 (cu hx2).2 hIk
theorem Qr (g c s:Nat) (z:Int) (l:List Int) (w:World) (hz:z=(s:Int)) (hs0:0 < s) (hs1:s<=4000000000000000) (hl:l.length<=1048600) (ha:GR.W bf 1 w a g l):
 Calls prog 71 #[.slice a l.length c,.int .i64 z] w λe w'=>e= .returned (.int .i64 (s+(l.length:Int)))/\GR.W bf 1 w' a g (jH mkInt 1 s l l.length)/\aA (fp g l) w w':=by
 subst hz;exact acR a g c s l w hs0 hs1 hl ha
theorem Px (g c n s:Nat) (z:Int) (l:List Int) (w:World) (hz:z=(s:Int)) (hn:n=l.length) (hs0:0 < s) (hs1:s<=4000000000000000) (hl:l.length<=1048600) (ha:GR.W bf 1 w a g (jH mkInt 1 s l l.length)):
 Calls prog 76 #[.slice a n c,.int .i64 z] w (dM w (.int .i64 (s+(l.length:Int)))):=by
 subst hz;exact abZ a g c n s l w hn hs0 hs1 hl ha
theorem Qp (s:Nat) (l:List Sn) (k:Nat) (hk:k < l.length):(kU s l)[k]'(by rw [jy];exact hk)=mSn (jd s (l.take k)) l[k]:=by
 induction l generalizing s k with
 |nil=>simp at hk
 |cons y l ih=>
  cases k with
  |zero=>rfl
  |succ k=>
   simp only[kU,List.getElem_cons_succ,List.take_succ_cons,jd];exact ih (eSn s y) k Acf
theorem WR (s:Nat) (l:List Sn) (k:Nat) (hk:k<=l.length):∀i (h1:i < (Es s l k).length) (h2:i < l.length),((Es s l k)[i]).ids.length=(l[i]).ids.length:=by
 induction k with
 |zero=>intro i h1 h2;rfl
 |succ k ih=>
  intro i h1 h2;have hk':k < l.length:=Aaa
  have e:=WU s l k hk';have h3:i < ((Es s l k).set k (mSn (jd s (l.take k)) l[k])).length:=by rw [e];exact h1
  have h4:(Es s l (k+1))[i]=((Es s l k).set k (mSn (jd s (l.take k)) l[k]))[i]'h3:=by simp only[e]
  rw [h4];by_cases hik:i=k
  .subst hik;rw [aFi,WV]
  .rw [aFj Aaa];exact ih Aaa i Aci h2
theorem dZ.three {a:Option Addr} (h:dZ w a g I l) (i:Nat) (hi:i < l.length):∃b c,a=some ⟨g,0,none⟩/\g < w.heap.size/\(w.cell? ⟨g,i*3,none⟩=some (.int .i64 l[i].f)/\w.cell? ⟨g,i*3+1,none⟩=some (.int .i64 l[i].l)/\w.cell? ⟨g,i*3+2,none⟩=some (.slice b l[i].ids.length c))/\(w.frozen? ⟨g,i*3,none⟩=false/\w.frozen? ⟨g,i*3+1,none⟩=false)/\GR.W bf 1 w b (I i) l[i].ids:=by
 obtain⟨T,hT,hl,hr⟩:=h;obtain⟨b,c,ht,hi2⟩:=hr i hi;have Sk:i < T.length:=Aaa
 obtain⟨e,hg,hc⟩:=hT i Sk;rw [aEQ Sk] at ht;rw [aFD ht] at hc;exact⟨b,c,e,hg,⟨by simpa using(hc 0 Aaa).1,by simpa using(hc 1 Aaa).1,by simpa using(hc 2 Aaa).1⟩,⟨by simpa using(hc 0 Aaa).2,(hc 1 Aaa).2⟩,hi2⟩
theorem YH (g c s:Nat) (I:Nat->Nat) (l:List Sn) (w:World) (hs0:0 < s) (hs1:s<=1000000000000000) (hl:l.length<=1048600) (hl2:∀x∈l,x.ids.length<=1048600) (hnd:(fp g l++mX I l).Nodup) (ha:dZ w a g I l):
 Calls prog 74 #[.slice a l.length c,.int .i64 s] w λe w'=>e= .returned (.int .i64 (jd s l:Nat))/\dZ w' a g I (kU s l)/\aA (fp g l++mX I l) w w':=by
 have HA:=Hq ha;have HL2:=Hq hl2;have HND:=Hq (aFW.1 hnd);clear ha hl2 hnd;go_in
 go_wp2_with fail;go_loopw [1,5] (λkk i wr=>∃k m:Nat,k<=l.length/\i= .int .i64 k/\kk= .int .i64 m/\m=jd s (l.take k)/\dZ wr a g I (Es s l k)/\aA (fp g l++mX I l) w wr) (λ_ i _=>l.length - (intOf i).toNat)
 case atStart=>exact⟨0,s,aE1 _,rfl,rfl,rfl,by rw [acM];exact HA,aA.refl _ _⟩
 case round=>
  open apJ in exact SL
theorem Yo (g c n s:Nat) (I:Nat->Nat) (l:List Sn) (w:World) (hn:n=l.length) (hs0:0 < s) (hs1:s<=1000000000000000) (hl:l.length<=1048600) (hl2:∀x∈l,x.ids.length<=1048600) (ha:dZ w a g I (kU s l)):
 Calls prog 79 #[.slice a n c,.int .i64 s] w (dM w (.int .i64 (jd s l:Nat))):=by
 have HA:=Hq ha;have HL2:=Hq hl2;clear ha hl2;subst hn;go_in
 go_wp2_with fail;go_loopw [1,5] (λkk i wr=>∃k m:Nat,k<=l.length/\i= .int .i64 k/\kk= .int .i64 m/\m=jd s (l.take k)/\aH w wr) (λ_ i _=>l.length - (intOf i).toNat)
 case atStart=>exact Tg
 case round=>
  open arS in exact ER
theorem Uq (g c s:Nat) (z:Int) (l:List Pu) (w:World) (hz:z=(s:Int)) (hs0:0 < s) (hs1:s<=4000000000000000) (hl:l.length<=1048600) (ha:GR.W fu 4 w a g l):
 Calls prog 72 #[.slice a l.length c,.int .i64 z] w λe w'=>e= .returned (.int .i64 (s+4*(l.length:Int)))/\GR.W fu 4 w' a g (jH fZ 4 s l l.length)/\aA (fp g l) w w':=by
 subst hz;exact Uo a g c s l w hs0 hs1 hl ha
theorem YK (g c s:Nat) (z:Int) (l:List jC) (w:World) (hz:z=(s:Int)) (hs0:0 < s) (hs1:s<=4000000000000000) (hl:l.length<=1048600) (ha:GR.W aM 4 w a g l):
 Calls prog 73 #[.slice a l.length c,.int .i64 z] w λe w'=>e= .returned (.int .i64 (s+4*(l.length:Int)))/\GR.W aM 4 w' a g (jH iA 4 s l l.length)/\aA (fp g l) w w':=by
 subst hz;exact YJ a g c s l w hs0 hs1 hl ha
theorem acT (g c s:Nat) (z:Int) (l:List Rq) (w:World) (hz:z=(s:Int)) (hs0:0 < s) (hs1:s<=4000000000000000) (hl:l.length<=1048600) (ha:GR.W aL 4 w a g l):
 Calls prog 75 #[.slice a l.length c,.int .i64 z] w λe w'=>e= .returned (.int .i64 (s+4*(l.length:Int)))/\GR.W aL 4 w' a g (jH jO 4 s l l.length)/\aA (fp g l) w w':=by
 subst hz;exact acS a g c s l w hs0 hs1 hl ha
theorem YI (g c s:Nat) (z:Int) (I:Nat->Nat) (l:List Sn) (w:World) (hz:z=(s:Int)) (hs0:0 < s) (hs1:s<=1000000000000000) (hl:l.length<=1048600) (hl2:∀x∈l,x.ids.length<=1048600) (hnd:(fp g l++mX I l).Nodup) (ha:dZ w a g I l):
 Calls prog 74 #[.slice a l.length c,.int .i64 z] w λe w'=>e= .returned (.int .i64 (jd s l:Nat))/\dZ w' a g I (kU s l)/\aA (fp g l++mX I l) w w':=by
 subst hz;exact YH a g c s I l w hs0 hs1 hl hl2 hnd ha
theorem TU (g c n s:Nat) (z:Int) (l:List Pu) (w:World) (hz:z=(s:Int)) (hn:n=l.length) (hs0:0 < s) (hs1:s<=4000000000000000) (hl:l.length<=1048600) (ha:GR.W fu 4 w a g (jH fZ 4 s l l.length)):
 Calls prog 77 #[.slice a n c,.int .i64 z] w (dM w (.int .i64 (s+4*(l.length:Int)))):=by
 subst hz;exact TR a g c n s l w hn hs0 hs1 hl ha
theorem Yr (g c n s:Nat) (z:Int) (l:List jC) (w:World) (hz:z=(s:Int)) (hn:n=l.length) (hs0:0 < s) (hs1:s<=4000000000000000) (hl:l.length<=1048600) (ha:GR.W aM 4 w a g (jH iA 4 s l l.length)):
 Calls prog 78 #[.slice a n c,.int .i64 z] w (dM w (.int .i64 (s+4*(l.length:Int)))):=by
 subst hz;exact Yq a g c n s l w hn hs0 hs1 hl ha
theorem ab1 (g c n s:Nat) (z:Int) (l:List Rq) (w:World) (hz:z=(s:Int)) (hn:n=l.length) (hs0:0 < s) (hs1:s<=4000000000000000) (hl:l.length<=1048600) (ha:GR.W aL 4 w a g (jH jO 4 s l l.length)):
 Calls prog 80 #[.slice a n c,.int .i64 z] w (dM w (.int .i64 (s+4*(l.length:Int)))):=by
 subst hz;exact ab0 a g c n s l w hn hs0 hs1 hl ha
theorem Yp (g c n s:Nat) (z:Int) (I:Nat->Nat) (l:List Sn) (w:World) (hz:z=(s:Int)) (hn:n=l.length) (hs0:0 < s) (hs1:s<=1000000000000000) (hl:l.length<=1048600) (hl2:∀x∈l,x.ids.length<=1048600) (ha:dZ w a g I (kU s l)):
 Calls prog 79 #[.slice a n c,.int .i64 z] w (dM w (.int .i64 (jd s l:Nat))):=by
 subst hz;exact Yo a g c n s I l w hn hs0 hs1 hl hl2 ha
theorem jl {mk:Nat->α} {c:Nat} {l:List α} (h:x∈fp g (jH mk c s l l.length)):x∈fp g l:=by
 rw [LQ (fA mk c s l l.length (aEM _))] at h;exact h
theorem ai7 (h:x∈fp g (kU s l)):x∈fp g l:=by
 rw [LQ (jy s l)] at h;exact h
theorem abL (h:x∈mX I (kU s l)):x∈mX I l:=by
 rw [xA (jy s l) (λi h1 h2=>by rw [Qp s l i h2,WV])] at h;exact h
theorem dZ.below {a:Option Addr} (h:dZ w a g I l) (hb:aH w w'):dZ w' a g I l:=h.keeps (F:=[]) (aA.of_below hb) (λ_ _=>Aac) (λ_ _=>Aac)
theorem XH {enc:α->List Value} {sz:Nat} {a:Option Addr} {l:List α} (h:GR.W enc sz w a g l):∀x∈fp g l,x < w.heap.size:=λx hx=>by
 rw [(cu hx).1];exact(h 0 (cu hx).2).2.1
theorem aaB {a:Option Addr} (h:dZ w a g I l):∀x∈fp g l++mX I l,x < w.heap.size:=λx hx=>by
 obtain⟨T,hT,hl,hr⟩:=h;rcases aE6.1 hx with hx|hx
 .rw [(cu hx).1];exact(hT 0 (by have:=(cu hx).2;omega)).2.1
 .obtain⟨i,hi,rfl,hp⟩:=rY hx;obtain⟨b,c,_,hi2⟩:=hr i hi;exact(hi2 0 hp).2.1
open Go.RowKit Go.Maps
abbrev FB (x:Int):Lit:= .int .i64 x
theorem afq {a b:Int} (h:a≠b):FB a≠FB b:=λe=>h (by injection e)
theorem rV:Keyed prog 3:=int_keyed underlying3
theorem Qj (x:Int) (h0:0<=x) (h1:x<=1000000000):keyOf prog 3 (.int .i64 x)=some (FB x):=keyOf_int_mk underlying3 (by simp only[Lit.wf,aES,aFa];constructor<;>(first|omega|(unfold IntKind.min;simp;omega)|(unfold IntKind.max;simp;omega)|(simp[IntKind.min,IntKind.max,IntKind.bits,IntKind.signed];omega)))
theorem ad1 (w:World):(zeroValue 107).run prog w= .ok (.agg #[]) w:=Aab
def fF (w:World) (mb n:Nat) (l:List Int):Prop:=∃D:DataW Unit,w.ownsMap prog 3 unitElem mb n D/\∀x,Maps.has D (FB x)=decide (x∈l)
theorem fF.made (w:World):fF (w.alloc (.map #[] 0)) w.heap.size 0 []:=⟨_,World.ownsMap_made w _ _ _,λx=>by simp[Maps.has]⟩
theorem fF.lt {l:List Int} (h:fF w mb n l):mb < w.heap.size:=h.choose_spec.1.lt
theorem fF.kept {l:List Int} (h:fF w mb n l) (hb:w'.heap[mb]?=w.heap[mb]?):fF w' mb n l:=by
 exact ai1
theorem fF.mono {n':Nat} {l:List Int} (h:fF w mb n l) (hn:n<=n'):fF w mb n' l:=by
 obtain⟨D,h1,h2⟩:=h;exact⟨D,h1.mono hn,h2⟩
theorem fF.same {l l':List Int} (h:fF w mb n l) (he:∀x,x∈l↔x∈l'):fF w mb n l':=by
 obtain⟨D,h1,h2⟩:=h;exact⟨D,h1,λx=>by rw [h2 x,decide_eq_decide];exact he x⟩
theorem fF.look {l:List Int} (h:fF w mb n l) (x:Int) (h0:0<=x) (h1:x<=1000000000):
 (Instr.lookup 304 (.map (some mb)) (.int .i64 x) true).run prog w= .ok (.tuple #[.agg #[],.bool (decide (x∈l))]) w:=by
 obtain⟨D,hown,ha⟩:=h;obtain⟨v,ps,hrun,hv⟩:=hown.look_ok rV underlying304 (ad1 w) unitElem_mk (Qj x h0 h1);rw [hrun,ha x,(unitElem_inv hv).1]
theorem fF.store {l:List Int} (h:fF w mb n l) (x:Int) (h0:0<=x) (h1:x<=1000000000) (hn:n < maxLen):
 ∃w',(Instr.mapUpdate 304 (.map (some mb)) (.int .i64 x) (.agg #[])).run prog w= .ok () w'/\fF w' mb (n+1) (x::l)/\Keeps mb w w':=by
 obtain⟨D,hown,ha⟩:=h;obtain⟨w',hrun,g1,g2⟩:=hown.store rV underlying304 hn (Qj x h0 h1) unitElem_mk;refine⟨w',hrun,⟨_,g1,λy=>?_⟩,oL g2⟩;by_cases e:y=x
 .subst e;rw [has_put_same hown.isMap (show WideAt.IsKeyLit (FB y) from trivial)];simp
 .rw [has_put_other (afq e),ha y];simp[e]
theorem fF.keys {l:List Int} (hown:w.ownsMap prog 3 unitElem mb n D) (ha:∀x,Maps.has D (FB x)=decide (x∈l)) (hl:l.Nodup):l.Perm (intKeys D):=by
 obtain⟨es,hD,hpw,_⟩:=hown.entries rV;obtain⟨es',hD',hko⟩:=hown.keysOf;obtain rfl:es=es':=by rw [hD] at hD';simpa using hD'
 subst hD;exact perm_intKeys hpw (λp hp=>by obtain⟨v,hv⟩:=hko p hp;obtain⟨x,_,hx,_⟩:=Maps.keyOf_i64 underlying3 hv;exact⟨x,hx⟩) hl (λx=>by rw [ha x];simp)
theorem KJ (hown:w.ownsMap prog 3 unitElem mb n D):Maps.size D=(intKeys D).length:=by
 obtain⟨es,hD,_⟩:=hown.entries rV;subst hD;simp[Maps.size,intKeys]
theorem fF.len {l:List Int} (h:fF w mb n l) (hl:l.Nodup) (ty:TypeId):(Builtin.len_ #[304] ty #[.map (some mb)]).run prog w= .ok (.int .i64 l.length) w:=by
 obtain⟨D,hown,ha⟩:=h;rw [hown.len underlying304 ty,KJ hown,(fF.keys hown ha hl).length_eq]
theorem alf (B sb mb:Nat) (low x:Int) (w:World) (h1:w.heap[B]?=some (.cells #[.pointer (some ⟨sb,0,none⟩)] 267 (0,0))) (h2:w.heap[sb]?=some (.cells #[.int .i64 low,.map (some mb)] 306 (0,0))):
 Calls prog 278 #[.int .i64 x,.agg #[],.pointer (some ⟨B,0,none⟩)] w (dM w (.bool (decide (x < low)))):=by
 have hB:=ay h1;have hS:=ay h2;have c0:w.cell? ⟨B,0,none⟩=some (.pointer (some ⟨sb,0,none⟩)):=aEW w B 0 _ _ (0,0) h1;have c1:w.cell? ⟨sb,0,none⟩=some (.int .i64 low):=aEW w sb 0 _ _ (0,0) h2;clear h1 h2;go_in
 exact VZ
def AJ (low:Int):Lit->DataW Unit->Bool
 | .int _ x,_=>decide (x < low)
 |_,_=>false
theorem Yn {l:List Int} {es:List (Lit×DataW Unit)} (low:Int) (hown:w.ownsMap prog 3 unitElem mb n (.map es)) (ha:∀x,Maps.has (.map es) (FB x)=decide (x∈l)) (x:Int):
 Maps.has (Lib.deleteFuncD (AJ low) (.map es)) (FB x)=decide (x∈l.filter (λx=>decide (low<=x))):=by
 obtain⟨es',hD',hko⟩:=hown.keysOf;obtain rfl:es=es':=by simpa using hD'
 have hx:=ha x;rw [aF2,aFo,has_eq,List.any_eq_true] at hx;show Maps.has (.map (es.filter λp=> !AJ low p.1 p.2)) (FB x)=_
 rw [aF2,aFo,has_eq,List.any_eq_true,aGG,<-hx,aFo];constructor
 .rintro⟨p,hp,hs⟩;obtain⟨hp1,hp2⟩:=aGG.1 hp;refine⟨⟨p,hp1,hs⟩,?_⟩;obtain⟨v,hv⟩:=hko p hp1;obtain⟨y,_,hy,_⟩:=Maps.keyOf_i64 underlying3 hv;rw [hy] at hs hp2;have e:y=x:=by simpa [Lit.sameKey] using hs
  subst e;simpa [AJ] using hp2
 .rintro⟨⟨p,hp1,hs⟩,hle⟩;obtain⟨v,hv⟩:=hko p hp1;obtain⟨y,_,hy,_⟩:=Maps.keyOf_i64 underlying3 hv;have hs':=hs;rw [hy] at hs';have e:y=x:=by simpa [Lit.sameKey] using hs'
  grind [AJ]
theorem FW {b:Nat} (g:w.grownBy w' (some b)):_root_.Go.Proofs.YtbolgdleijjgfaaGreatDoor.Keeps b w w':=⟨g.os,g.tape,g.output,g.size,λk hk hne=>g.block k hk (λe=>hne (aFD e))⟩
theorem gL (h:aH w w') (row:Option Nat):w.grownBy w' row:=⟨h.os,h.tape,h.output,h.size,λk hk _=>h.block k hk⟩
theorem aky (B sb mb n:Nat) (low:Int) (l:List Int) (w:World) (h1:w.heap[B]?=some (.cells #[.pointer (some ⟨sb,0,none⟩)] 267 (0,0))) (h2:w.heap[sb]?=some (.cells #[.int .i64 low,.map (some mb)] 306 (0,0))) (hs:fF w mb n l):
 Calls prog 277 #[.map (some mb),.func (.func 278) #[] #[.pointer (some ⟨B,0,none⟩)]] w λe w'=>e= .returned (.tuple #[])/\fF w' mb n (l.filter (λx=>decide (low<=x)))/\Keeps mb w w':=by
 obtain⟨D,hown,ha⟩:=hs;obtain⟨es0,rfl,hap,hkeys⟩:=hown.entries rV;have hmap:∃es clock,w.heap[mb]?=some (.map es clock):=by obtain⟨es,clock,hb,_⟩:=hown;exact⟨es,clock,hb⟩
 obtain⟨es1,clock1,hmb⟩:=hmap;have hBm:B≠mb:=λe=>by rw [e,hmb] at h1;cases h1
 have hSm:sb≠mb:=λe=>by rw [e,hmb] at h2;cases h2
 have HA:=Hq (Yn (n:=n) low hown ha);have HD:=Hq (fun(W:World) (x:Int) (hg:w.grownBy W (some mb))=>alf B sb mb low x W ((hg.block B (ay h1) (by simpa using hBm)).trans h1) ((hg.block sb (ay h2) (by simpa using hSm)).trans h2));clear h1 h2 hmb hBm hSm ha;go_in
 go_wp2_with (first
  |(at_range;refine wpList_range_own _ rfl _ 304 rfl 3 107 rV underlying304 unitElem mb n _ rfl hown ?_;intro w0 hrg0 hg0 hs0)
  |go_in)
 go_frame
 go_loopw [8] (λ_ wr=>∃(left:Lit->Bool) (cnt:Nat),wr.ranges prog 3 unitElem mb w.heap.size n (Fk (AJ low) es0 left) left cnt/\w.grownBy wr (some mb))
  (λ_ wr=>wr.rangeLeft mb w.heap.size)
 case atStart=>exact⟨_,_,by rw [Fk_start hkeys];exact hrg0,hg0.but _⟩
 case round=>
  obtain⟨left,cnt,hrg,hgw⟩:=hrel
  go_wp2_with (first
   |(at_next;refine wpList_next_ranges _ rfl _ rfl 3 rV unitElem (Value.int .i64) (λ_:Unit=>Value.agg #[]) (λkey kl hk=>by obtain⟨x,hx,_⟩:=Maps.keyOf_i64 underlying3 hk;exact⟨x,hx⟩) (λv y hv=>⟨(),(unitElem_inv hv).1⟩) mb w.heap.size n _ _ _ rfl hrg ?_ ?_)
   |go_in)
  ·
   intro _ hl0
   go_wp2_with fail
   go_end0
   refine⟨rfl,⟨_,?_,HA⟩,FW hgw⟩
   rw [<-Fk_end hl0]
   exact hrg.owns
  ·
   intro x kl yd yp w1 cnt1 hkey hlx hv hat hrg1 hlt hg1 hs1 hen
   obtain⟨x',ex,rfl,_⟩:=Maps.keyOf_i64 underlying3 hkey
   cases ex
   have hgw1:=hgw.andThen hg1 (λj hj=>by cases hj;exact Or.inl (aEM _))
   have hc:=Hq (HD (w1.alloc (.cells #[] 107)) x (hgw1.andThen (World.grownBy_alloc w1 _ none) (λj hj=>by cases hj)))
   have ayN:=hrg1.alloc (.cells #[] 107)
   have hgA:=hgw1.andThen (World.grownBy_alloc w1 (.cells #[] 107) none) (λj hj=>by cases hj)
   by_cases hx:x < low
   .have hp:AJ low (FB x) yd=true:=by simpa [AJ] using hx
    have hq:decide (x < low)=true:=Aag
    go_wp2_with (first
     |(go_at_call 278;refine hc.mono ?_;rintro e w2 ⟨rfl,hb2⟩;have hrg2:=ayN.kept (gL hb2 none) Aac Aac)
     |(at_delete;refine wpList_delete_ranges _ rfl _ _ 304 3 rfl 107 rV underlying304 unitElem mb w.heap.size n _ _ _ rfl hrg2 _ _ rfl hkey ?_;intro w3 cnt3 hrg3 hle hturn;go_frame)
     |go_in)
    rw [strike_twice] at hrg3;go_roundw
    case rel=>exact⟨_,cnt3,by rw [<-Fk_struck hap (rV.key hkey) hlx hp hat];exact hrg3,(hgA.andThen (gL hb2 none) (λj hj=>by cases hj)).andThen hturn.grown (λj hj=>by cases hj;exact Or.inr rfl)⟩
    case measure=>rw [hrg3.left_eq,hrg.left_eq];omega
   .have hp:AJ low (FB x) yd=false:=by simpa [AJ] using hx
    have hq:decide (x < low)=false:=Aag
    go_wp2_with (first
     |(go_at_call 278;refine hc.mono ?_;rintro e w2 ⟨rfl,hb2⟩;have hrg2:=ayN.kept (gL hb2 none) Aac Aac)
     |go_in)
    go_roundw
    case rel=>exact⟨_,cnt1,by rw [<-Fk_stays hap (rV.key hkey) hlx hp hat];exact hrg2,hgA.andThen (gL hb2 none) (λj hj=>by cases hj)⟩
    case measure=>rw [hrg2.left_eq,hrg.left_eq];exact hlt
def sPk (s0:Nat) (n:Nd):Nat:=s0+n.kids.length
def sOk (s0:Nat) (n:Nd):Nat:=sPk s0 n+4*n.pu.length
def QX (s0:Nat) (n:Nd):Nat:=sOk s0 n+4*n.out.length
def sRk (s0:Nat) (n:Nd):Nat:=jd (QX s0 n) n.seen
def dY (s0:Nat) (n:Nd):Nat:=sRk s0 n+4*n.reqs.length
def rW (s0:Nat) (n:Nd):Nd:=⟨n.id,n.par,jH mkInt 1 s0 n.kids n.kids.length,n.next,jH fZ 4 (sPk s0 n) n.pu n.pu.length,jH iA 4 (sOk s0 n) n.out n.out.length,kU (QX s0 n) n.seen,n.old,jH jO 4 (sRk s0 n) n.reqs n.reqs.length⟩
theorem YW {s0:Nat} {n:Nd} (h0:0 < s0) (h1:s0<=900000000000000) (hz:eF n 1048600):0 < sPk s0 n/\sPk s0 n<=910000000000000/\0 < sOk s0 n/\sOk s0 n<=920000000000000/\0 < QX s0 n/\QX s0 n<=1000000000000000/\0 < sRk s0 n/\sRk s0 n<=2000000000000000:=by
 have h:=Ac (QX s0 n) 1048600 n.seen hz.sk;have h1:=hz.k;have h2:=hz.p;have h3:=hz.o;have h4:=hz.s;unfold sRk;generalize jd (QX s0 n) n.seen=z at *;unfold QX sOk sPk at *;omega
theorem J9 (s0:Nat) (h0:0 < s0) (h1:s0<=900000000000000) (n:Nd) (A:bq) (G:aK) (w:World) (hz:eF n 1048600) (hnd:(G.all n).Nodup) (ha:gU w A G n):
 Calls prog 34 #[gM n A,.int .i64 s0] w λe w'=>e= .returned (.int .i64 (dY s0 n:Nat))/\gU w' A G (rW s0 n)/\aA (G.all n) w w':=by
 have hb0:=au w (.cells (dH n A) 39);open atr in exact agT
theorem J3 (s0:Nat) (h0:0 < s0) (h1:s0<=900000000000000) (n:Nd) (A:bq) (G:aK) (w:World) (hz:eF n 1048600) (ha:gU w A G (rW s0 n)):
 Calls prog 36 #[gM n A,.int .i64 s0] w (dM w (.int .i64 (dY s0 n:Nat))):=by
 open atq in exact agT
theorem all_mk {G:aK} {n:Nd} (h:x∈G.all (rW s n)):x∈G.all n:=by
 rcases aK.mem_all.1 h with h1|h1|h1|h1|h1|h1
 .exact aK.mem_all.2 (.inl (jl h1))
 .exact aK.mem_all.2 (.inr (.inl (jl h1)))
 .exact aK.mem_all.2 (.inr (.inr (.inl (jl h1))))
 .exact aK.mem_all.2 (.inr (.inr (.inr (.inl (ai7 h1)))))
 .exact aK.mem_all.2 (.inr (.inr (.inr (.inr (.inl (abL h1))))))
 .exact aK.mem_all.2 (.inr (.inr (.inr (.inr (.inr (jl h1))))))
theorem uI {n:Nd} (hz:eF n 1048576) (hs:0 < s):0 < dY s n:=by
 have h:=(Ac (QX s n) 1048576 n.seen hz.sk).1;exact aiY
end Go.Proofs.YtbolgdleijjgfaaGreatDoor
