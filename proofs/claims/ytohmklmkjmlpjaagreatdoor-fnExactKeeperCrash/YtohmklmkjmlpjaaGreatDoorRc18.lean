/- Parts. -/
import Derived.Test.YtohmklmkjmlpjaaGreatDoorRc15
namespace Go.Proofs.YtohmklmkjmlpjaaGreatDoor
open Go.Proofs.Tryz
set_option maxHeartbeats 2000000
set_option maxRecDepth 100000
open Go.RowKit
open Mth
def gI (k:Nat):Pu:=⟨mark k,(k:Int)+1,(k:Int)+2,(k:Int)+3⟩
theorem GR.W.fourPurse {w:World} {a:Option Addr} {g:Nat} {l:List Pu} (h:GR.W fD 4 w a g l) (i:Nat) (hi:i < l.length):a=some ⟨g,0,none⟩/\g < w.heap.size/\(w.cell? ⟨g,i*4,none⟩=some (.string l[i].k)/\w.cell? ⟨g,i*4+1,none⟩=some (.int .i64 l[i].m)/\w.cell? ⟨g,i*4+2,none⟩=some (.int .i64 l[i].f)/\w.cell? ⟨g,i*4+3,none⟩=some (.int .i64 l[i].s))/\w.frozen? ⟨g,i*4,none⟩=false/\w.frozen? ⟨g,i*4+1,none⟩=false/\w.frozen? ⟨g,i*4+2,none⟩=false/\w.frozen? ⟨g,i*4+3,none⟩=false:=by
 exact aeT
theorem UJ (a:Option Addr) (g c s:Nat) (l:List Pu) (w:World) (hs0:0 < s) (hs1:s<=4000000000000000) (hl:l.length<=1048600) (ha:GR.W fD 4 w a g l):
 Calls prog 85 #[.slice a l.length c,.int .i64 s] w λe w'=>e= .returned (.int .i64 (s+4*(l.length:Int)))/\GR.W fD 4 w' a g (nN gI 4 s l l.length)/\aC (fp g l) w w':=by
 have HA:=Hq ha;clear ha;go_in
 go_wp2_with fail;go_loopw [1,5] (λkk i wr=>∃k m:Nat,k<=l.length/\i= .int .i64 k/\kk= .int .i64 m/\m=s+4*k/\GR.W fD 4 wr a g (nN gI 4 s l k)/\aC (fp g l) w wr) (λ_ i _=>l.length - (intOf i).toNat)
 case atStart=>exact Wx
 case round=>
  open ar3 in exact abd
theorem Uf (a:Option Addr) (g c n s:Nat) (l:List Pu) (w:World) (hn:n=l.length) (hs0:0 < s) (hs1:s<=4000000000000000) (hl:l.length<=1048600) (ha:GR.W fD 4 w a g (nN gI 4 s l l.length)):
 Calls prog 91 #[.slice a n c,.int .i64 s] w (dZ w (.int .i64 (s+4*(l.length:Int)))):=by
 have HA:=Hq ha;clear ha;subst hn;go_in
 go_wp2_with fail;go_loopw [1,5] (λkk i wr=>∃k m:Nat,k<=l.length/\i= .int .i64 k/\kk= .int .i64 m/\m=s+4*k/\aI w wr) (λ_ i _=>l.length - (intOf i).toNat)
 case atStart=>exact O9
 case round=>
  open avv in exact OY
def iN (k:Nat):jM:=⟨(k:Int),(k:Int)+1,mark (k+2),(k:Int)+3⟩
theorem GR.W.fourSent {w:World} {a:Option Addr} {g:Nat} {l:List jM} (h:GR.W aM 4 w a g l) (i:Nat) (hi:i < l.length):a=some ⟨g,0,none⟩/\g < w.heap.size/\(w.cell? ⟨g,i*4,none⟩=some (.int .i64 l[i].i)/\w.cell? ⟨g,i*4+1,none⟩=some (.int .i64 l[i].t)/\w.cell? ⟨g,i*4+2,none⟩=some (.string l[i].k)/\w.cell? ⟨g,i*4+3,none⟩=some (.int .i64 l[i].n))/\w.frozen? ⟨g,i*4,none⟩=false/\w.frozen? ⟨g,i*4+1,none⟩=false/\w.frozen? ⟨g,i*4+2,none⟩=false/\w.frozen? ⟨g,i*4+3,none⟩=false:=by
 exact aeT
theorem YL (a:Option Addr) (g c s:Nat) (l:List jM) (w:World) (hs0:0 < s) (hs1:s<=4000000000000000) (hl:l.length<=1048600) (ha:GR.W aM 4 w a g l):
 Calls prog 86 #[.slice a l.length c,.int .i64 s] w λe w'=>e= .returned (.int .i64 (s+4*(l.length:Int)))/\GR.W aM 4 w' a g (nN iN 4 s l l.length)/\aC (fp g l) w w':=by
 have HA:=Hq ha;clear ha;go_in
 go_wp2_with fail;go_loopw [1,5] (λkk i wr=>∃k m:Nat,k<=l.length/\i= .int .i64 k/\kk= .int .i64 m/\m=s+4*k/\GR.W aM 4 wr a g (nN iN 4 s l k)/\aC (fp g l) w wr) (λ_ i _=>l.length - (intOf i).toNat)
 case atStart=>exact Wx
 case round=>
  open ar2 in exact abd
theorem Yq (a:Option Addr) (g c n s:Nat) (l:List jM) (w:World) (hn:n=l.length) (hs0:0 < s) (hs1:s<=4000000000000000) (hl:l.length<=1048600) (ha:GR.W aM 4 w a g (nN iN 4 s l l.length)):
 Calls prog 92 #[.slice a n c,.int .i64 s] w (dZ w (.int .i64 (s+4*(l.length:Int)))):=by
 have HA:=Hq ha;clear ha;subst hn;go_in
 go_wp2_with fail;go_loopw [1,5] (λkk i wr=>∃k m:Nat,k<=l.length/\i= .int .i64 k/\kk= .int .i64 m/\m=s+4*k/\aI w wr) (λ_ i _=>l.length - (intOf i).toNat)
 case atStart=>exact O9
 case round=>
  open avu in exact OY
def jX (k:Nat):Rq:=⟨(k:Int),mark (k+1),(k:Int)+2,(k:Int)+3⟩
theorem GR.W.fourReq {w:World} {a:Option Addr} {g:Nat} {l:List Rq} (h:GR.W aJ 4 w a g l) (i:Nat) (hi:i < l.length):a=some ⟨g,0,none⟩/\g < w.heap.size/\(w.cell? ⟨g,i*4,none⟩=some (.int .i64 l[i].no)/\w.cell? ⟨g,i*4+1,none⟩=some (.string l[i].k)/\w.cell? ⟨g,i*4+2,none⟩=some (.int .i64 l[i].n)/\w.cell? ⟨g,i*4+3,none⟩=some (.int .i64 l[i].s))/\w.frozen? ⟨g,i*4,none⟩=false/\w.frozen? ⟨g,i*4+1,none⟩=false/\w.frozen? ⟨g,i*4+2,none⟩=false/\w.frozen? ⟨g,i*4+3,none⟩=false:=by
 exact aeT
theorem adh (a:Option Addr) (g c s:Nat) (l:List Rq) (w:World) (hs0:0 < s) (hs1:s<=4000000000000000) (hl:l.length<=1048600) (ha:GR.W aJ 4 w a g l):
 Calls prog 88 #[.slice a l.length c,.int .i64 s] w λe w'=>e= .returned (.int .i64 (s+4*(l.length:Int)))/\GR.W aJ 4 w' a g (nN jX 4 s l l.length)/\aC (fp g l) w w':=by
 have HA:=Hq ha;clear ha;go_in
 go_wp2_with fail;go_loopw [1,5] (λkk i wr=>∃k m:Nat,k<=l.length/\i= .int .i64 k/\kk= .int .i64 m/\m=s+4*k/\GR.W aJ 4 wr a g (nN jX 4 s l k)/\aC (fp g l) w wr) (λ_ i _=>l.length - (intOf i).toNat)
 case atStart=>exact Wx
 case round=>
  open ar1 in exact abd
theorem acj (a:Option Addr) (g c n s:Nat) (l:List Rq) (w:World) (hn:n=l.length) (hs0:0 < s) (hs1:s<=4000000000000000) (hl:l.length<=1048600) (ha:GR.W aJ 4 w a g (nN jX 4 s l l.length)):
 Calls prog 94 #[.slice a n c,.int .i64 s] w (dZ w (.int .i64 (s+4*(l.length:Int)))):=by
 have HA:=Hq ha;clear ha;subst hn;go_in
 go_wp2_with fail;go_loopw [1,5] (λkk i wr=>∃k m:Nat,k<=l.length/\i= .int .i64 k/\kk= .int .i64 m/\m=s+4*k/\aI w wr) (λ_ i _=>l.length - (intOf i).toNat)
 case atStart=>exact O9
 case round=>
  open avt in exact OY
def mkInt (k:Nat):Int:=k
theorem GR.W.one {w:World} {a:Option Addr} {g:Nat} {l:List Int} (h:GR.W aS 1 w a g l) (i:Nat) (hi:i < l.length):a=some ⟨g,0,none⟩/\g < w.heap.size/\w.cell? ⟨g,i,none⟩=some (.int .i64 l[i])/\w.frozen? ⟨g,i,none⟩=false:=by
 obtain⟨e,hg,hc⟩:=h i hi;exact⟨e,hg,by simpa using(hc 0 Aaa).1,by simpa using(hc 0 Aaa).2⟩
theorem adg (a:Option Addr) (g c s:Nat) (l:List Int) (w:World) (hs0:0 < s) (hs1:s<=4000000000000000) (hl:l.length<=1048600) (ha:GR.W aS 1 w a g l):
 Calls prog 84 #[.slice a l.length c,.int .i64 s] w λe w'=>e= .returned (.int .i64 (s+(l.length:Int)))/\GR.W aS 1 w' a g (nN mkInt 1 s l l.length)/\aC (fp g l) w w':=by
 have HA:=Hq ha;clear ha;go_in
 go_wp2_with fail;go_loopw [1,5] (λkk i wr=>∃k m:Nat,k<=l.length/\i= .int .i64 k/\kk= .int .i64 m/\m=s+1*k/\GR.W aS 1 wr a g (nN mkInt 1 s l k)/\aC (fp g l) w wr) (λ_ i _=>l.length - (intOf i).toNat)
 case atStart=>exact Wx
 case round=>
  open ar0 in exact abd
theorem ach (a:Option Addr) (g c n s:Nat) (l:List Int) (w:World) (hn:n=l.length) (hs0:0 < s) (hs1:s<=4000000000000000) (hl:l.length<=1048600) (ha:GR.W aS 1 w a g (nN mkInt 1 s l l.length)):
 Calls prog 90 #[.slice a n c,.int .i64 s] w (dZ w (.int .i64 (s+(l.length:Int)))):=by
 have HA:=Hq ha;clear ha;subst hn;go_in
 go_wp2_with fail;go_loopw [1,5] (λkk i wr=>∃k m:Nat,k<=l.length/\i= .int .i64 k/\kk= .int .i64 m/\m=s+1*k/\aI w wr) (λ_ i _=>l.length - (intOf i).toNat)
 case atStart=>exact O9
 case round=>
  open avs in exact OY
def mSn (s:Nat) (x:Sn):Sn:=⟨(s:Int),(s:Int)+1,nN mkInt 1 (s+2) x.ids x.ids.length⟩
def eSn (s:Nat) (x:Sn):Nat:=s+2+x.ids.length
def lC:Nat->List Sn->List Sn
 |_,[]=>[]
 |s,x::r=>mSn s x::lC (eSn s x) r
def jy:Nat->List Sn->Nat
 |s,[]=>s
 |s,x::r=>jy (eSn s x) r
theorem UG (s:Nat) (l:List Sn) (x:Sn):lC s (l++[x])=lC s l++[mSn (jy s l) x]:=by
 induction l generalizing s with
 |nil=>rfl
 |cons y l ih=>simp[lC,jy,ih]
theorem Fj (s:Nat) (l:List Sn) (x:Sn):jy s (l++[x])=eSn (jy s l) x:=by
 induction l generalizing s with
 |nil=>rfl
 |cons y l ih=>simp[jy,ih]
theorem jJ (s:Nat) (l:List Sn):(lC s l).length=l.length:=by
 induction l generalizing s with
 |nil=>rfl
 |cons y l ih=>simp[lC,ih]
theorem Xd (s:Nat) (x:Sn):(mSn s x).ids.length=x.ids.length:=gU mkInt 1 (s+2) x.ids x.ids.length (aGh _)
theorem zU (s b:Nat) (l:List Sn) (h:∀x∈l,x.ids.length<=b):s<=jy s l/\jy s l<=s+l.length*(b+2):=by
 induction l generalizing s with
 |nil=>simp[jy]
 |cons y l ih=>
  have h1:=h y Aac;have h2:=ih (eSn s y) (λx hx=>h x (aHY _ hx));simp only[jy,aHt,aIh,Nat.one_mul];unfold eSn at *;omega
def Et (s:Nat) (l:List Sn) (k:Nat):List Sn:=lC s (l.take k)++l.drop k
theorem uT (s:Nat) (l:List Sn) (k:Nat) (hk:k<=l.length):(Et s l k).length=l.length:=by simp[Et,jJ];omega
theorem ac9 (s:Nat) (l:List Sn):Et s l 0=l:=rfl
theorem afN (s:Nat) (l:List Sn):Et s l l.length=lC s l:=by simp[Et]
theorem ac8 (s:Nat) (l:List Sn) (k:Nat) (hk:k < l.length):(Et s l k)[k]'(by rw [uT s l k Aaa];exact hk)=l[k]:=by
 unfold Et;have h1:(lC s (l.take k)).length=k:=by rw [jJ];simp;omega
 rw [List.getElem_append_right Aaa];simp[h1]
theorem Xc (s:Nat) (l:List Sn) (k:Nat) (hk:k < l.length):(Et s l k).set k (mSn (jy s (l.take k)) l[k])=Et s l (k+1):=by
 have h1:(lC s (l.take k)).length=k:=by rw [jJ];simp;omega
 have e:l.drop k=l[k]::l.drop (k+1):=aG1 hk;unfold Et;rw [e,aHL _ _ Aaa,h1,Nat.sub_self,List.set_cons_zero,aGt hk,UG,aGN];rfl
theorem wZ {I:Nat->Nat} {l l':List Sn} (hl:l.length=l'.length) (h:∀i (h1:i < l.length) (h2:i < l'.length),l[i].ids.length=l'[i].ids.length):nA I l=nA I l':=by
 unfold nA;rw [hl]
 have:∀i∈List.range l'.length,fp (I i) (l.getD i default).ids=fp (I i) (l'.getD i default).ids:=λi hi=>by
  have h2:=aG7.1 hi
  have h1:i < l.length:=Aaa
  apply Me
  rw [aGK,aGo h1,aGK,aGo h2]
  exact h i h1 h2
 rw [List.flatMap_def,List.flatMap_def,List.map_congr_left this]
theorem eF.put {w:World} {a:Option Addr} {g:Nat} {I:Nat->Nat} {l:List Sn} (h:eF w a g I l) (k:Nat) (hk:k < l.length) (f lo:Int) (hne:∀x∈nA I l,x≠g):
 eF ((w.setCell ⟨g,k*3,none⟩ (.int .i64 f)).setCell ⟨g,k*3+1,none⟩ (.int .i64 lo)) a g I (l.set k ⟨f,lo,l[k].ids⟩):=by
 obtain⟨T,hT,hl,hr⟩:=h;obtain⟨b,c,ht,hi2⟩:=hr k hk;have Sz:k < T.length:=Aaa
 have htk:T[k]=⟨l[k].f,l[k].l,.slice b l[k].ids.length c⟩:=by
  rw [aGo Sz] at ht;exact aHd ht
 have hC:=((GR.W.toC bY Aaa hT).set (k*3) (.int .i64 f)).set (k*3+1) (.int .i64 lo);have hf:=GR.flat_set fq 3 bY T k ⟨f,lo,.slice b l[k].ids.length c⟩ Sz;have h3:(((GR.flat fq T).set (k*3) (.int .i64 f)).set (k*3+1) (.int .i64 lo)).set (k*3+2) (.slice b l[k].ids.length c)=GR.flat fq (T.set k ⟨f,lo,.slice b l[k].ids.length c⟩):=hf;have hat:=GR.flat_at fq 3 bY T k Sz 2 Aaa;rw [htk] at hat
 have h4:((GR.flat fq T).set (k*3) (.int .i64 f)).set (k*3+1) (.int .i64 lo)=GR.flat fq (T.set k ⟨f,lo,.slice b l[k].ids.length c⟩):=by
  rw [<-h3];apply List.ext_getElem?
  intro j;by_cases hj:j=k*3+2
  .subst hj;have hlt:k*3+2 < (GR.flat fq T).length:=by rw [GR.flat_length fq 3 bY];omega
   rw [aH2 (by simpa using hlt),aHG Aaa,aHG Aaa,hat];rfl
  .rw [aHG (i:=k*3+2) Aaa]
 rw [h4] at hC;have hK:aC [g] w ((w.setCell ⟨g,k*3,none⟩ (.int .i64 f)).setCell ⟨g,k*3+1,none⟩ (.int .i64 lo)):=(aC.set _).trans (aC.set _);refine⟨T.set k ⟨f,lo,.slice b l[k].ids.length c⟩,GR.C.toW bY Aaa hC,Aci,λi hi=>?_⟩;have hi':i < l.length:=Aao
 by_cases hik:i=k
 .subst hik;refine⟨b,c,?_,?_⟩
  .rw [aH2 Sz];simp
  .rw [aGO];exact hi2.keeps hK (λx hx=>by simpa using hne x (jI hi' x hx))
 .obtain⟨b',c',ht',hi3⟩:=hr i hi';refine⟨b',c',?_,?_⟩
  .rw [aHG Aaa,ht',aGQ Aaa]
  .rw [aGQ Aaa];exact hi3.keeps hK (λx hx=>by simpa using hne x (jI hi' x hx))
theorem abY {I:Nat->Nat} {l:List Sn} (hnd:(nA I l).Nodup) {i k:Nat} (hi:i < l.length) (hk:k < l.length) (hik:i≠k) (h1:0 < l[i].ids.length) (h2:0 < l[k].ids.length):I i≠I k:=by
 intro he;have hd:∀j (hj:j < l.length),l.getD j default=l[j]:=λj hj=>by rw [aGK,aGo hj];rfl
 have key:∀a b,a < b->b < l.length->0 < (l.getD a default).ids.length->0 < (l.getD b default).ids.length->I a≠I b:=by
  intro a b hab hb ha1 hb1 hI;unfold nA at hnd
  have e1:List.range l.length=List.range b++(List.range (l.length - b)).map (b+·):=by
   rw [<-List.range_add];congr 1
   omega
  rw [e1,List.flatMap_append,aHp] at hnd;refine hnd.2.2 (I a) ?_ (I b) ?_ hI
  .rw [aHw];exact⟨a,aG7.2 hab,dX ha1⟩
  .rw [aHw];exact⟨b,aHQ.2 ⟨0,aG7.2 Aaa,Aac⟩,dX hb1⟩
 rcases Nat.lt_or_gt_of_ne hik with h|h
 .exact key i k h hk (by rw [hd i hi];exact h1) (by rw [hd k hk];exact h2) he
 .exact key k i h hi (by rw [hd k hk];exact h2) (by rw [hd i hi];exact h1) he.symm
theorem eF.ids {w w':World} {a:Option Addr} {g:Nat} {I:Nat->Nat} {l:List Sn} (h:eF w a g I l) (k:Nat) (hk:k < l.length) (b:Option Addr) (c:Nat) (ids:List Int) (hb:w.cell? ⟨g,k*3+2,none⟩=some (.slice b l[k].ids.length c)) (hlen:ids.length=l[k].ids.length) (hw:GR.W aS 1 w' b (I k) ids) (hK:aC (fp (I k) l[k].ids) w w')
 (hne:∀x∈nA I l,x≠g) (hnd:(nA I l).Nodup):eF w' a g I (l.set k ⟨l[k].f,l[k].l,ids⟩):=by
 obtain⟨T,hT,hl,hr⟩:=h;have Sz:k < T.length:=Aaa
 have aDR:∀x∈fp (I k) l[k].ids,x∈nA I l:=jI hk
 have hT':GR.W fq 3 w' a g T:=hT.keeps hK (λx hx hx2=>by
  rw [(dQ hx).1] at hx2
  exact hne _ (aDR _ hx2) rfl)
 refine⟨T,hT',Aci,λi hi=>?_⟩;have hi':i < l.length:=Aao
 obtain⟨b',c',ht',hi3⟩:=hr i hi';by_cases hik:i=k
 .subst hik;obtain⟨_,_,hc⟩:=hT i Sz;have h2:=(hc 2 Aaa).1;rw [aGo Sz] at ht';rw [aHd ht'] at h2;have h2':w.cell? ⟨g,i*3+2,none⟩=some (.slice b' l[i].ids.length c'):=h2;rw [hb] at h2';injection h2' with h2'
  injection h2' with e1 e2 e3
  subst e1 e3;refine⟨b,c,?_,?_⟩
  .rw [aGo Sz,aHd ht',aGO];simp[hlen]
  .rw [aGO];exact hw
 .refine⟨b',c',?_,?_⟩
  .rw [ht',aGQ Aaa]
  .rw [aGQ Aaa];refine hi3.keeps hK (λx hx hx2=>?_);have e1:=(dQ hx).1;have e2:=(dQ hx2).1;have hIk:I i=I k:=by rw [<-e1,<-e2]
   exact abY hnd hi' hk hik (dQ hx).2 (dQ hx2).2 hIk
theorem QB (a:Option Addr) (g c s:Nat) (z:Int) (l:List Int) (w:World) (hz:z=(s:Int)) (hs0:0 < s) (hs1:s<=4000000000000000) (hl:l.length<=1048600) (ha:GR.W aS 1 w a g l):
 Calls prog 84 #[.slice a l.length c,.int .i64 z] w λe w'=>e= .returned (.int .i64 (s+(l.length:Int)))/\GR.W aS 1 w' a g (nN mkInt 1 s l l.length)/\aC (fp g l) w w':=by
 subst hz;exact adg a g c s l w hs0 hs1 hl ha
theorem PU (a:Option Addr) (g c n s:Nat) (z:Int) (l:List Int) (w:World) (hz:z=(s:Int)) (hn:n=l.length) (hs0:0 < s) (hs1:s<=4000000000000000) (hl:l.length<=1048600) (ha:GR.W aS 1 w a g (nN mkInt 1 s l l.length)):
 Calls prog 90 #[.slice a n c,.int .i64 z] w (dZ w (.int .i64 (s+(l.length:Int)))):=by
 subst hz;exact ach a g c n s l w hn hs0 hs1 hl ha
theorem Qz (s:Nat) (l:List Sn) (k:Nat) (hk:k < l.length):(lC s l)[k]'(by rw [jJ];exact hk)=mSn (jy s (l.take k)) l[k]:=by
 induction l generalizing s k with
 |nil=>simp at hk
 |cons y l ih=>
  cases k with
  |zero=>rfl
  |succ k=>
   simp only[lC,List.getElem_cons_succ,List.take_succ_cons,jy];exact ih (eSn s y) k Abn
theorem Xb (s:Nat) (l:List Sn) (k:Nat) (hk:k<=l.length):∀i (h1:i < (Et s l k).length) (h2:i < l.length),((Et s l k)[i]).ids.length=(l[i]).ids.length:=by
 induction k with
 |zero=>intro i h1 h2;rfl
 |succ k ih=>
  intro i h1 h2;have hk':k < l.length:=Aaa
  have e:=Xc s l k hk';have h3:i < ((Et s l k).set k (mSn (jy s (l.take k)) l[k])).length:=by rw [e];exact h1
  have h4:(Et s l (k+1))[i]=((Et s l k).set k (mSn (jy s (l.take k)) l[k]))[i]'h3:=by simp only[e]
  rw [h4];by_cases hik:i=k
  .subst hik;rw [aGO,Xd]
  .rw [aGQ Aaa];exact ih Aaa i Acj h2
theorem eF.three {w:World} {a:Option Addr} {g:Nat} {I:Nat->Nat} {l:List Sn} (h:eF w a g I l) (i:Nat) (hi:i < l.length):∃b c,a=some ⟨g,0,none⟩/\g < w.heap.size/\(w.cell? ⟨g,i*3,none⟩=some (.int .i64 l[i].f)/\w.cell? ⟨g,i*3+1,none⟩=some (.int .i64 l[i].l)/\w.cell? ⟨g,i*3+2,none⟩=some (.slice b l[i].ids.length c))/\(w.frozen? ⟨g,i*3,none⟩=false/\w.frozen? ⟨g,i*3+1,none⟩=false)/\GR.W aS 1 w b (I i) l[i].ids:=by
 obtain⟨T,hT,hl,hr⟩:=h;obtain⟨b,c,ht,hi2⟩:=hr i hi;have Sz:i < T.length:=Aaa
 obtain⟨e,hg,hc⟩:=hT i Sz;rw [aGo Sz] at ht;rw [aHd ht] at hc;exact⟨b,c,e,hg,⟨by simpa using(hc 0 Aaa).1,by simpa using(hc 1 Aaa).1,by simpa using(hc 2 Aaa).1⟩,⟨by simpa using(hc 0 Aaa).2,(hc 1 Aaa).2⟩,hi2⟩
theorem YJ (a:Option Addr) (g c s:Nat) (I:Nat->Nat) (l:List Sn) (w:World) (hs0:0 < s) (hs1:s<=1000000000000000) (hl:l.length<=1048600) (hl2:∀x∈l,x.ids.length<=1048600) (hnd:(fp g l++nA I l).Nodup) (ha:eF w a g I l):
 Calls prog 87 #[.slice a l.length c,.int .i64 s] w λe w'=>e= .returned (.int .i64 (jy s l:Nat))/\eF w' a g I (lC s l)/\aC (fp g l++nA I l) w w':=by
 have HA:=Hq ha;have HL2:=Hq hl2;have HND:=Hq (aHp.1 hnd);clear ha hl2 hnd;go_in
 go_wp2_with fail;go_loopw [1,5] (λkk i wr=>∃k m:Nat,k<=l.length/\i= .int .i64 k/\kk= .int .i64 m/\m=jy s (l.take k)/\eF wr a g I (Et s l k)/\aC (fp g l++nA I l) w wr) (λ_ i _=>l.length - (intOf i).toNat)
 case atStart=>exact⟨0,s,aGB _,rfl,rfl,rfl,by rw [ac9];exact HA,aC.refl _ _⟩
 case round=>
  open ar4 in exact abd
theorem Yo (a:Option Addr) (g c n s:Nat) (I:Nat->Nat) (l:List Sn) (w:World) (hn:n=l.length) (hs0:0 < s) (hs1:s<=1000000000000000) (hl:l.length<=1048600) (hl2:∀x∈l,x.ids.length<=1048600) (ha:eF w a g I (lC s l)):
 Calls prog 93 #[.slice a n c,.int .i64 s] w (dZ w (.int .i64 (jy s l:Nat))):=by
 have HA:=Hq ha;have HL2:=Hq hl2;clear ha hl2;subst hn;go_in
 go_wp2_with fail;go_loopw [1,5] (λkk i wr=>∃k m:Nat,k<=l.length/\i= .int .i64 k/\kk= .int .i64 m/\m=jy s (l.take k)/\aI w wr) (λ_ i _=>l.length - (intOf i).toNat)
 case atStart=>exact O9
 case round=>
  open avw in exact OY
theorem UK (a:Option Addr) (g c s:Nat) (z:Int) (l:List Pu) (w:World) (hz:z=(s:Int)) (hs0:0 < s) (hs1:s<=4000000000000000) (hl:l.length<=1048600) (ha:GR.W fD 4 w a g l):
 Calls prog 85 #[.slice a l.length c,.int .i64 z] w λe w'=>e= .returned (.int .i64 (s+4*(l.length:Int)))/\GR.W fD 4 w' a g (nN gI 4 s l l.length)/\aC (fp g l) w w':=by
 subst hz;exact UJ a g c s l w hs0 hs1 hl ha
theorem YN (a:Option Addr) (g c s:Nat) (z:Int) (l:List jM) (w:World) (hz:z=(s:Int)) (hs0:0 < s) (hs1:s<=4000000000000000) (hl:l.length<=1048600) (ha:GR.W aM 4 w a g l):
 Calls prog 86 #[.slice a l.length c,.int .i64 z] w λe w'=>e= .returned (.int .i64 (s+4*(l.length:Int)))/\GR.W aM 4 w' a g (nN iN 4 s l l.length)/\aC (fp g l) w w':=by
 subst hz;exact YL a g c s l w hs0 hs1 hl ha
theorem adi (a:Option Addr) (g c s:Nat) (z:Int) (l:List Rq) (w:World) (hz:z=(s:Int)) (hs0:0 < s) (hs1:s<=4000000000000000) (hl:l.length<=1048600) (ha:GR.W aJ 4 w a g l):
 Calls prog 88 #[.slice a l.length c,.int .i64 z] w λe w'=>e= .returned (.int .i64 (s+4*(l.length:Int)))/\GR.W aJ 4 w' a g (nN jX 4 s l l.length)/\aC (fp g l) w w':=by
 subst hz;exact adh a g c s l w hs0 hs1 hl ha
theorem YK (a:Option Addr) (g c s:Nat) (z:Int) (I:Nat->Nat) (l:List Sn) (w:World) (hz:z=(s:Int)) (hs0:0 < s) (hs1:s<=1000000000000000) (hl:l.length<=1048600) (hl2:∀x∈l,x.ids.length<=1048600) (hnd:(fp g l++nA I l).Nodup) (ha:eF w a g I l):
 Calls prog 87 #[.slice a l.length c,.int .i64 z] w λe w'=>e= .returned (.int .i64 (jy s l:Nat))/\eF w' a g I (lC s l)/\aC (fp g l++nA I l) w w':=by
 subst hz;exact YJ a g c s I l w hs0 hs1 hl hl2 hnd ha
theorem Ug (a:Option Addr) (g c n s:Nat) (z:Int) (l:List Pu) (w:World) (hz:z=(s:Int)) (hn:n=l.length) (hs0:0 < s) (hs1:s<=4000000000000000) (hl:l.length<=1048600) (ha:GR.W fD 4 w a g (nN gI 4 s l l.length)):
 Calls prog 91 #[.slice a n c,.int .i64 z] w (dZ w (.int .i64 (s+4*(l.length:Int)))):=by
 subst hz;exact Uf a g c n s l w hn hs0 hs1 hl ha
theorem Yr (a:Option Addr) (g c n s:Nat) (z:Int) (l:List jM) (w:World) (hz:z=(s:Int)) (hn:n=l.length) (hs0:0 < s) (hs1:s<=4000000000000000) (hl:l.length<=1048600) (ha:GR.W aM 4 w a g (nN iN 4 s l l.length)):
 Calls prog 92 #[.slice a n c,.int .i64 z] w (dZ w (.int .i64 (s+4*(l.length:Int)))):=by
 subst hz;exact Yq a g c n s l w hn hs0 hs1 hl ha
theorem acn (a:Option Addr) (g c n s:Nat) (z:Int) (l:List Rq) (w:World) (hz:z=(s:Int)) (hn:n=l.length) (hs0:0 < s) (hs1:s<=4000000000000000) (hl:l.length<=1048600) (ha:GR.W aJ 4 w a g (nN jX 4 s l l.length)):
 Calls prog 94 #[.slice a n c,.int .i64 z] w (dZ w (.int .i64 (s+4*(l.length:Int)))):=by
 subst hz;exact acj a g c n s l w hn hs0 hs1 hl ha
theorem Yp (a:Option Addr) (g c n s:Nat) (z:Int) (I:Nat->Nat) (l:List Sn) (w:World) (hz:z=(s:Int)) (hn:n=l.length) (hs0:0 < s) (hs1:s<=1000000000000000) (hl:l.length<=1048600) (hl2:∀x∈l,x.ids.length<=1048600) (ha:eF w a g I (lC s l)):
 Calls prog 93 #[.slice a n c,.int .i64 z] w (dZ w (.int .i64 (jy s l:Nat))):=by
 subst hz;exact Yo a g c n s I l w hn hs0 hs1 hl hl2 ha
theorem lG {α:Type} {mk:Nat->α} {c s g x:Nat} {l:List α} (h:x∈fp g (nN mk c s l l.length)):x∈fp g l:=by
 rw [Me (gU mk c s l l.length (aGh _))] at h;exact h
theorem ajU {s g x:Nat} {l:List Sn} (h:x∈fp g (lC s l)):x∈fp g l:=by
 rw [Me (jJ s l)] at h;exact h
theorem abZ {I:Nat->Nat} {s x:Nat} {l:List Sn} (h:x∈nA I (lC s l)):x∈nA I l:=by
 rw [wZ (jJ s l) (λi h1 h2=>by rw [Qz s l i h2,Xd])] at h;exact h
theorem eF.below {w w':World} {a:Option Addr} {g:Nat} {I:Nat->Nat} {l:List Sn} (h:eF w a g I l) (hb:aI w w'):eF w' a g I l:=h.keeps (F:=[]) (aC.of_below hb) (λ_ _=>Aac) (λ_ _=>Aac)
theorem XL {α:Type} {enc:α->List Value} {sz:Nat} {w:World} {a:Option Addr} {g:Nat} {l:List α} (h:GR.W enc sz w a g l):∀x∈fp g l,x < w.heap.size:=λx hx=>by
 rw [(dQ hx).1];exact(h 0 (dQ hx).2).2.1
theorem aaF {w:World} {a:Option Addr} {g:Nat} {I:Nat->Nat} {l:List Sn} (h:eF w a g I l):∀x∈fp g l++nA I l,x < w.heap.size:=λx hx=>by
 obtain⟨T,hT,hl,hr⟩:=h;rcases aGE.1 hx with hx|hx
 .rw [(dQ hx).1];exact(hT 0 (by have:=(dQ hx).2;omega)).2.1
 .obtain⟨i,hi,rfl,hp⟩:=qM hx;obtain⟨b,c,_,hi2⟩:=hr i hi;exact(hi2 0 hp).2.1
def sPk (s0:Nat) (n:Nd):Nat:=s0+n.kids.length
def sOk (s0:Nat) (n:Nd):Nat:=sPk s0 n+4*n.pu.length
def Q9 (s0:Nat) (n:Nd):Nat:=sOk s0 n+4*n.out.length
def sRk (s0:Nat) (n:Nd):Nat:=jy (Q9 s0 n) n.seen
def iD (s0:Nat) (n:Nd):Nat:=sRk s0 n+4*n.reqs.length
def wM (s0:Nat) (n:Nd):Nd:=⟨n.id,n.par,nN mkInt 1 s0 n.kids n.kids.length,n.next,nN gI 4 (sPk s0 n) n.pu n.pu.length,nN iN 4 (sOk s0 n) n.out n.out.length,lC (Q9 s0 n) n.seen,n.old,nN jX 4 (sRk s0 n) n.reqs n.reqs.length⟩
theorem YZ {s0:Nat} {n:Nd} (h0:0 < s0) (h1:s0<=900000000000000) (hz:eG n 1048600):0 < sPk s0 n/\sPk s0 n<=910000000000000/\0 < sOk s0 n/\sOk s0 n<=920000000000000/\0 < Q9 s0 n/\Q9 s0 n<=1000000000000000/\0 < sRk s0 n/\sRk s0 n<=2000000000000000:=by
 have h:=zU (Q9 s0 n) 1048600 n.seen hz.sk;have h1:=hz.k;have h2:=hz.p;have h3:=hz.o;have h4:=hz.s;unfold sRk;generalize jy (Q9 s0 n) n.seen=z at *;unfold Q9 sOk sPk at *;omega
theorem Kk (s0:Nat) (h0:0 < s0) (h1:s0<=900000000000000) (n:Nd) (A:bV) (G:aR) (w:World) (hz:eG n 1048600) (hnd:(G.all n).Nodup) (ha:jd w A G n):
 Calls prog 33 #[gP n A,.int .i64 s0] w λe w'=>e= .returned (.int .i64 (iD s0 n:Nat))/\jd w' A G (wM s0 n)/\aC (G.all n) w w':=by
 have hb0:=ay w (.cells (dG n A) 40);open au7 in exact aho
theorem J9 (s0:Nat) (h0:0 < s0) (h1:s0<=900000000000000) (n:Nd) (A:bV) (G:aR) (w:World) (hz:eG n 1048600) (ha:jd w A G (wM s0 n)):
 Calls prog 36 #[gP n A,.int .i64 s0] w (dZ w (.int .i64 (iD s0 n:Nat))):=by
 open au6 in exact aho
theorem all_mk {G:aR} {n:Nd} {s x:Nat} (h:x∈G.all (wM s n)):x∈G.all n:=by
 rcases aR.mem_all.1 h with h1|h1|h1|h1|h1|h1
 .exact aR.mem_all.2 (.inl (lG h1))
 .exact aR.mem_all.2 (.inr (.inl (lG h1)))
 .exact aR.mem_all.2 (.inr (.inr (.inl (lG h1))))
 .exact aR.mem_all.2 (.inr (.inr (.inr (.inl (ajU h1)))))
 .exact aR.mem_all.2 (.inr (.inr (.inr (.inr (.inl (abZ h1))))))
 .exact aR.mem_all.2 (.inr (.inr (.inr (.inr (.inr (lG h1))))))
theorem yM {s:Nat} {n:Nd} (hz:eG n 1048576) (hs:0 < s):0 < iD s n:=by
 have h:=(zU (Q9 s n) 1048576 n.seen hz.sk).1;exact ajF
theorem aci (k:Int) (w:World):Calls prog 37 #[.slice none 0 0,.int .i64 k] w λe w'=>e= .returned (.int .i64 k)/\w=w':=by
 go_in
 exact az1
theorem acg (k:Int) (w:World):Calls prog 38 #[.slice none 0 0,.int .i64 k] w λe w'=>e= .returned (.int .i64 k)/\w=w':=by
 go_in
 exact az1
open Go.WideShapes
open Go.ChangeShapes
theorem iY:prog.cellsOf 3=1:=Aab
theorem lS:prog.cellsOf 9=1:=Aab
section
variable {H:Type} {enc:TypeId×Value->H} {W:World}
theorem nO {α:Type} {en:α->List Value} {sz:Nat} {ok:α->Prop} {t e:TypeId} {fuel:Nat} {cs:List Value} {x:DataW H×List MemPlace} (ht:prog.underlying t=some (.slice e)) (hc:prog.cellsOf e=sz) (hsz:0 < sz) (hs:∀y,(en y).length=sz)
 (hel:∀fuel cs' x,cs'.length=sz->DataW.trod enc prog W 0 (λ_=>true) true fuel e cs'=some x->∃y,ok y/\cs'=en y)
 (h:DataW.trod enc prog W 0 (λ_=>true) true fuel t cs=some x):
 ∃(a:Option Addr) (cap:Nat) (l:List α),cs=[.slice a l.length cap]/\l.length<=maxLen/\(∀y∈l,ok y)/\GR.At en sz W a l:=by
 rcases Deep.open_slice ht h with⟨hcs,_⟩|⟨x,len,cap,m,n,D,Pl,hcs,_,hlc,hcm,hm,_,hcell⟩
 .exact⟨none,0,[],hcs,Aac,λp hp=>by simp at hp,λi hi=>Aas⟩
 .have hm':m=cap:=by rw [hm];simp
  have each:∀i,i < len->∃q:α,ok q/\∀j,j < sz->W.cell? (x.add (i*sz+j))=(en q)[j]?:=by
   intro i hi;obtain⟨cs',h1,h2⟩:=hcell i Aaa;rw [hc] at h1;obtain⟨_,hlen,hcc⟩:=World.cells?_some h1;obtain⟨y,hy,rfl⟩:=hel _ _ _ hlen h2;refine⟨y,hy,λj hj=>?_⟩;have e:=hcc j Aaa;rw [Deep.add_add] at e;exact e
  have hd:Nonempty α\/len=0:=by
   by_cases h0:len=0
   .exact .inr h0
   .obtain⟨q,_⟩:=each 0 Aaa;exact .inl ⟨q⟩
  rcases hd with d|d
  .obtain⟨q,hq⟩:∃q:Nat->α,∀i,i < len->ok (q i)/\∀j,j < sz->W.cell? (x.add (i*sz+j))=(en (q i))[j]?:=by
    exact⟨λi=>if hi:i < len then(each i hi).choose else Classical.choice d,λi hi=>by simp only[dif_pos hi];exact(each i hi).choose_spec⟩
   refine⟨some x,cap,(List.range len).map q,by rw [hcs];simp,Aag,λp hp=>?_,λi hi=>?_⟩
   .obtain⟨i,hi,rfl⟩:=aHQ.1 hp;exact(hq i (aG7.1 hi)).1
   .have hi':i < len:=Aao
    obtain⟨b,off,spot⟩:=x;have h0:=(hq 0 Aaa).2 0 hsz;have hne:∃v,(en (q 0))[0]?=some v:=⟨_,aGo (by rw [hs];exact hsz)⟩;obtain⟨v0,hv0⟩:=hne;rw [hv0] at h0;have hspot:spot=none:=by simpa [Addr.add] using World.cell?_spot h0
    subst hspot;have h1:=(hq i hi').2;have ea:∀k:Nat,(⟨b,off,none⟩:Addr).add k=⟨b,off+k,none⟩:=λk=>by unfold Addr.add;split<;>simp_all
    have h3:=h1 0 hsz;rw [ea,aGo (by rw [hs];exact hsz)] at h3;refine⟨b,off,rfl,aHs _ _ h3,λj hj=>?_⟩;have h2:=h1 j hj;rw [ea] at h2;simpa using h2
  .subst d;exact⟨some x,cap,[],by rw [hcs];simp,Aac,λp hp=>by simp at hp,λi hi=>Aas⟩
theorem open_ints' {fuel:Nat} {cs:List Value} {x:DataW H×List MemPlace} (h:DataW.trod enc prog W 0 (λ_=>true) true fuel 22 cs=some x):
 ∃(a:Option Addr) (cap:Nat) (l:List Int),cs=[.slice a l.length cap]/\l.length<=maxLen/\dH W a l:=by
 obtain⟨a,cap,l,h1,h2,_,h4⟩:=nO (en:=aS) (sz:=1) (ok:=λ_=>True) underlying22 iY Aaa aO (λfuel cs' x _ h=>by
  obtain⟨n,q,_⟩:=aGJ underlying3 h
  exact⟨n,trivial,q⟩) h
 exact⟨a,cap,l,h1,h2,h4⟩
theorem Ni {fuel:Nat} {cs:List Value} {x:DataW H×List MemPlace} (h:DataW.trod enc prog W 0 (λ_=>true) true fuel 23 cs=some x):
 ∃(a:Option Addr) (cap:Nat) (l:List Pu),cs=[.slice a l.length cap]/\l.length<=maxLen/\(∀y∈l,y.k.size<=maxLen)/\aH W a l:=
 nO (en:=fD) (sz:=4) (ok:=λy=>y.k.size<=maxLen) underlying23 Aab Aaa aU (λfuel cs' x hlen h=>by
  obtain⟨xs,k,_,_,_,hxl,hfl⟩:=aHF underlying148 h
  match xs,hxl,cs',hlen with
  |[y0,y1,y2,y3],_,[v0,v1,v2,v3],_=>
   have g0:=hfl 0 _ rfl
   have g1:=hfl 1 _ rfl
   have g2:=hfl 2 _ rfl
   have g3:=hfl 3 _ rfl
   simp[iY,lS] at g0 g1 g2 g3
   obtain⟨s0,q0,_,hs0⟩:=aH1 underlying9 g0
   obtain⟨n1,q1,_⟩:=aGJ underlying3 g1
   obtain⟨n2,q2,_⟩:=aGJ underlying3 g2
   obtain⟨n3,q3,_⟩:=aGJ underlying3 g3
   simp at q0 q1 q2 q3
   subst q0 q1 q2 q3
   exact⟨⟨s0,n1,n2,n3⟩,hs0,rfl⟩) h
theorem UY {fuel:Nat} {cs:List Value} {x:DataW H×List MemPlace} (h:DataW.trod enc prog W 0 (λ_=>true) true fuel 24 cs=some x):
 ∃(a:Option Addr) (cap:Nat) (l:List jM),cs=[.slice a l.length cap]/\l.length<=maxLen/\(∀y∈l,y.k.size<=maxLen)/\SentAt W a l:=
 nO (en:=aM) (sz:=4) (ok:=λy=>y.k.size<=maxLen) underlying24 Aab Aaa aZ (λfuel cs' x hlen h=>by
  obtain⟨xs,k,_,_,_,hxl,hfl⟩:=aHF underlying150 h
  match xs,hxl,cs',hlen with
  |[y0,y1,y2,y3],_,[v0,v1,v2,v3],_=>
   have g0:=hfl 0 _ rfl
   have g1:=hfl 1 _ rfl
   have g2:=hfl 2 _ rfl
   have g3:=hfl 3 _ rfl
   simp[iY,lS] at g0 g1 g2 g3
   obtain⟨n0,q0,_⟩:=aGJ underlying3 g0
   obtain⟨n1,q1,_⟩:=aGJ underlying3 g1
   obtain⟨s2,q2,_,hs2⟩:=aH1 underlying9 g2
   obtain⟨n3,q3,_⟩:=aGJ underlying3 g3
   simp at q0 q1 q2 q3
   subst q0 q1 q2 q3
   exact⟨⟨n0,n1,s2,n3⟩,hs2,rfl⟩) h
theorem Y9 {fuel:Nat} {cs:List Value} {x:DataW H×List MemPlace} (h:DataW.trod enc prog W 0 (λ_=>true) true fuel 26 cs=some x):
 ∃(a:Option Addr) (cap:Nat) (l:List Rq),cs=[.slice a l.length cap]/\l.length<=maxLen/\(∀y∈l,y.k.size<=maxLen)/\gZ W a l:=
 nO (en:=aJ) (sz:=4) (ok:=λy=>y.k.size<=maxLen) underlying26 Aab Aaa aN (λfuel cs' x hlen h=>by
  obtain⟨xs,k,_,_,_,hxl,hfl⟩:=aHF underlying154 h
  match xs,hxl,cs',hlen with
  |[y0,y1,y2,y3],_,[v0,v1,v2,v3],_=>
   have g0:=hfl 0 _ rfl
   have g1:=hfl 1 _ rfl
   have g2:=hfl 2 _ rfl
   have g3:=hfl 3 _ rfl
   simp[iY,lS] at g0 g1 g2 g3
   obtain⟨n0,q0,_⟩:=aGJ underlying3 g0
   obtain⟨s1,q1,_,hs1⟩:=aH1 underlying9 g1
   obtain⟨n2,q2,_⟩:=aGJ underlying3 g2
   obtain⟨n3,q3,_⟩:=aGJ underlying3 g3
   simp at q0 q1 q2 q3
   subst q0 q1 q2 q3
   exact⟨⟨n0,s1,n2,n3⟩,hs1,rfl⟩) h
theorem F9:prog.cellsOf 22=1:=Aab
theorem Za {fuel:Nat} {cs:List Value} {x:DataW H×List MemPlace} (h:DataW.trod enc prog W 0 (λ_=>true) true fuel 25 cs=some x):
 ∃(a:Option Addr) (cap:Nat) (l:List Sn),cs=[.slice a l.length cap]/\l.length<=maxLen/\(∀y∈l,y.ids.length<=maxLen)/\iW W a l:=by
 obtain⟨a,cap,l,h1,h2,h3,h4⟩:=nO (en:=fq) (sz:=3) (ok:=λy=>∃b c,∃ids:List Int,y.v= .slice b ids.length c/\ids.length<=maxLen/\dH W b ids) underlying25 Aab Aaa bY (λfuel cs' x hlen h=>by
  obtain⟨xs,k,_,_,_,hxl,hfl⟩:=aHF underlying152 h
  match xs,hxl,cs',hlen with
  |[y0,y1,y2],_,[v0,v1,v2],_=>
   have g0:=hfl 0 _ rfl
   have g1:=hfl 1 _ rfl
   have g2:=hfl 2 _ rfl
   simp[iY,F9] at g0 g1 g2
   obtain⟨n0,q0,_⟩:=aGJ underlying3 g0
   obtain⟨n1,q1,_⟩:=aGJ underlying3 g1
   obtain⟨b,c,ids,q2,hi1,hi2⟩:=open_ints' g2
   simp at q0 q1 q2
   subst q0 q1 q2
   exact⟨⟨n0,n1,.slice b ids.length c⟩,⟨b,c,ids,rfl,hi1,hi2⟩,rfl⟩) h
 have hex:∀y:R3,∃s:Sn,y∈l->(s.f=y.f/\s.l=y.l/\∃b c,y.v= .slice b s.ids.length c/\s.ids.length<=maxLen/\dH W b s.ids):=λy=>by
  by_cases hy:y∈l
  .obtain⟨b,c,ids,e1,e2,e3⟩:=h3 y hy;exact⟨⟨y.f,y.l,ids⟩,λ_=>⟨rfl,rfl,b,c,e1,e2,e3⟩⟩
  .exact⟨default,λh=>absurd h hy⟩
 refine⟨a,cap,l.map (λy=>(hex y).choose),by rw [h1];simp,by simpa using h2,?_,?_⟩
 .intro s hs;obtain⟨y,hy,rfl⟩:=aHQ.1 hs;obtain⟨_,_,b,c,_,e2,_⟩:=(hex y).choose_spec hy;exact e2
 .intro i hi;have hi':i < l.length:=Aao
  obtain⟨g,off,e,hg,hc⟩:=h4 i hi';have hsp:=(hex l[i]).choose_spec (aGz hi');have hge:(l.map (λy=>(hex y).choose))[i]=(hex l[i]).choose:=Aac
  rw [hge];obtain⟨s1,s2,b,c,e1,e2,e3⟩:=hsp;refine⟨g,off,b,c,e,hg,?_,?_,?_,e3⟩
  .rw [s1];simpa using hc 0 Aaa
  .rw [s2];simpa [aGI] using hc 1 Aaa
  .rw [<-e1];simpa [aGI] using hc 2 Aaa
theorem afQ:prog.cellsOf 28=9:=Aab
theorem aA0:prog.cellsOf 23=1:=Aab
theorem aA1:prog.cellsOf 24=1:=Aab
theorem aA2:prog.cellsOf 25=1:=Aab
theorem aA3:prog.cellsOf 26=1:=Aab
end
end Go.Proofs.YtohmklmkjmlpjaaGreatDoor
