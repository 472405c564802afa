/- Parts. -/
import Derived.Test.YtbolgdleijjgfaaGreatDoorRs18
namespace Go.Proofs.YtbolgdleijjgfaaGreatDoor
open Go.Proofs.Tryz
set_option maxHeartbeats 8000000
set_option maxRecDepth 100000
open Go.RowKit
open Mth
variable {w:World} {id par:Int} {n:Nd}
theorem cell_grown' {a:Addr} {v:Value} (h:w.cell? a=some v):∀d os,(Sort.grow (redrawn w d) os).cell? a=some v:=λd os=>aEL h d os
theorem ajh (n:Nd) (A:bq) (x:Int) (b:Bool) (wc:World) (hl:n.kids.length<=1048600) (ha:bC wc A.k n.kids) (hb:dV n x=b):∀d os,Calls prog 92 #[gM n A,.int .i64 x] (Sort.grow (redrawn wc d) os) λe w''=>e= .returned (.bool b)/\∃p:Regrown,w''=Sort.grow (redrawn wc p.d) p.os:=λd os=>by
 rw [<-hb];exact aFk (GQ n A x _ hl (GR.At.below ha (aFe wc d os)))
theorem Kv (x:Int) (b:Bool) (wc:World) (hb:fH x=b):∀d os,Calls prog 90 #[.int .i64 x] (Sort.grow (redrawn wc d) os) λe w''=>e= .returned (.bool b)/\∃p:Regrown,w''=Sort.grow (redrawn wc p.d) p.os:=λ_ _=>
 aFk ((eG x b _ hb).mono λ_ _ ⟨he,hw⟩=>⟨he,hw▸aEY _ _⟩)
theorem qIn (x a b:Int) (r:Bool) (hb:decide (a<=x/\x<=b)=r) (W:World) (n:Nat):Calls prog 47 #[.int .i64 x,.int .i64 a,.int .i64 b] (W.drewN n) λe w''=>e= .returned (.bool r)/\∃m,w''=W.drewN m:=
 (yT x a b r _ hb).mono λ_ _ ⟨he,hw⟩=>⟨he,n,hw.symm⟩
theorem three {g:Nat} {v0 v1 v2:Value} {t:TypeId} (h:w.heap[g]?=some (.cells #[v0,v1,v2] t (0,0))):
 w.cell? ⟨g,0,none⟩=some v0/\w.cell? ⟨g,1,none⟩=some v1/\w.cell? ⟨g,2,none⟩=some v2:=by
 have hc:∀i,w.cell? ⟨g,i,none⟩=#[v0,v1,v2][i]?:=λi=>aEW w g i _ t (0,0) h
 exact⟨hc 0,hc 1,hc 2⟩
theorem adA (n:Nd) (A:bq) (w:World) (hl:n.kids.length<=1048600) (hl2:n.seen.length<=1048600) (hl3:∀s∈n.seen,s.ids.length<=1048600) (ha:bC w A.k n.kids) (hs:gZ w A.s n.seen):
 Calls prog 89 #[gM n A] w (dM w (.bool (oC n))):=by
 have HA:=Hq ha;have HS:=Hq hs;have qX:=Hq hl3;have HD:Hid (oC n=(decide ((n.seen.length:Int)=n.kids.length+(if 0<=n.par then 1 else 0))&&gV (λs=>dV n s.f&&vX s) (λs t=>iL s.f t.f) n.seen)):=rfl;have yt:=Hq (λk h=>pV (λs=>dV n s.f&&vX s) (λs t=>iL s.f t.f) n.seen k h);have Oo:=Hq (sJ (λs=>dV n s.f&&vX s) (λs t=>iL s.f t.f) n.seen);have Ey:=Hq (wD (λs=>dV n s.f&&vX s) (λs t=>iL s.f t.f) n.seen);have R7:=Hq (λx b wc (ha:bC wc A.k n.kids) (hb:dV n x=b)=>ajh n A x b wc hl ha hb);have jI:=Hq (aEK w (.cells (dH n A) 39));clear ha hs hl3;generalize hpp:(λs=>dV n s.f&&vX s)=PP at *;have Xz:Hid (∀s,PP s=(dV n s.f&&vX s)):=by intro s;rw [<-hpp]
 clear hpp;generalize hrr:(λs t:Sn=>iL s.f t.f)=RR at *;have HRR:Hid (∀s t,RR s t=iL s.f t.f):=by intro s t;rw [<-hrr]
 clear hrr;generalize hnn:dV n=NN at *;clear hnn;generalize htt:oC n=TT at *;clear htt;open anX in exact vR
namespace Mth
def upTo (n:Nat):List Int:=(List.range n).map Int.ofNat
theorem adN (n:Nat):(upTo n).Pairwise (· < ·):=by
 unfold upTo;rw [List.pairwise_map];exact List.pairwise_lt_range.imp (λ{a b} h=>by show(a:Int) < (b:Int);omega)
theorem adO (n:Nat) (x:Int):x∈upTo n↔0<=x/\x < n:=by
 unfold upTo;rw [aGk];constructor
 .rintro⟨a,ha,rfl⟩;have:=aFP.1 ha;show 0<=(a:Int)/\(a:Int) < n
  omega
 .intro h;exact⟨x.toNat,aFP.2 Aaa,by show((x.toNat:Nat):Int)=x;omega⟩
theorem acF {l:List Int} (h:gV (kE id par) iL l=true):l.length<=30:=by
 obtain⟨h1,h2⟩:=(uG (r:=iL) nI).1 h
 have h3:=akt (upTo 30) l (h2.imp (λ{a b} h=>aE5 h)) (adN 30) (λx hx=>by
  have h4:=h1 x hx
  unfold kE uV at h4
  simp only[aES,aFa] at h4
  rw [adO]
  omega)
 simpa [upTo] using h3
def Gd (n:Nd):Bool:=uV n.id&&(decide (n.par= -1)||(uV n.par&&decide (n.par≠n.id)))&&gV (kE n.id n.par) iL n.kids
theorem Uy (n:Nd):Gd n=eu n:=by
 unfold Gd eu;cases hc:gV (kE n.id n.par) iL n.kids
 .simp
 .rw [aEO (acF hc)];cases hi:uV n.id
  .simp
  .have h0:0<=n.id/\n.id<=29:=aE5 hi;by_cases h1:n.par= -1
   .have h2:n.par≠n.id:=Aaa
    rw [aEO h1,aEO h2,aEO (show -1<=n.par/\n.par<=29 by omega)];rfl
   .rw [aEN h1];unfold uV;by_cases h2:0<=n.par/\n.par<=29
    .rw [aEO h2,aEO (show -1<=n.par/\n.par<=29 by omega)];simp
    .rw [aEN h2,aEN (show¬(-1<=n.par/\n.par<=29) by omega)];simp
theorem afv {x:Int} (h:kE id par x=true): -1 < x:=by
 unfold kE uV at h;exact abh
theorem acf {low x:Int} (h:D7 low x=true):low - 1 < x:=by
 unfold D7 at h;simp only[aFa] at h;omega
theorem Xb {s:jC} (h:wN n s=true):0 < s.i:=by
 unfold wN at h;exact abh
theorem Xf {s:Rq} (h:tK n s=true):n.old < s.no:=by
 unfold tK at h;exact abh
end Mth
theorem Uc (n:Nd) (A:bq) (w:World) (hl:n.kids.length<=1048600) (ha:bC w A.k n.kids):
 Calls Tryz.prog 168 #[gM n A] w (dM w (.bool (Gd n))):=by
 have HA:=Hq ha;have HD:Hid (Gd n=(uV n.id&&(decide (n.par= -1)||(uV n.par&&decide (n.par≠n.id)))&&gV (kE n.id n.par) iL n.kids)):=rfl;have yt:=Hq (λk h=>pV (kE n.id n.par) iL n.kids k h);have jJ:=Hq (λk h=>zW (kE n.id n.par) (λx=>x) (-1) (λx=>afv) n.kids k h);have zy:=Hq (λk h=>uS (λx:Int=>x) (-1) n.kids k h);have Vp:=Hq (λx=>show kE n.id n.par x=(uV x&&decide (x≠n.id)&&decide (x≠n.par)) from rfl);have jI:=Hq (aEK w (.cells (dH n A) 39));generalize Gd n=TT at *;generalize kE n.id n.par=KB at *;open anY in exact vR
theorem Qa (s:Sn) (b:Option Addr) (c:Nat) (w:World) (hl:s.ids.length<=1048600) (ha:bC w b s.ids):
 Calls Tryz.prog 192 #[.agg #[.int .i64 s.f,.int .i64 s.l,.slice b s.ids.length c]] w (dM w (.bool (vX s))):=by
 obtain⟨fr,lo,ids⟩:=s;dsimp only at hl ha ⊢;have HA:=Hq ha;have HD:Hid (vX ⟨fr,lo,ids⟩=(fH lo&&decide (ids.length<=40)&&gV (D7 lo) iL ids)):=rfl;have yt:=Hq (λk h=>pV (D7 lo) iL ids k h);have jJ:=Hq (λk h=>zW (D7 lo) (λx=>x) (lo - 1) (λx=>acf) ids k h);have zy:=Hq (λk h=>uS (λx:Int=>x) (lo - 1) ids k h);have HLB:=Hq (λk (h:gV (D7 lo) iL (ids.take k)=true)=>BQ (key:=λx=>x) (y0:=lo - 1) (λx=>acf) h);have Vp:=Hq (λx=>show D7 lo x=decide (lo<=x/\x<=1000000000) from rfl);generalize vX ⟨fr,lo,ids⟩=TT at *;generalize D7 lo=KB at *;clear ha;cases h1:fH lo
 case' false=>
  have HP:Hid (TT=false):=by rw [ah HD,h1];rfl
  have H1:=Hq (λw1=>aO lo false w1 h1);exact ail
 have H1:=Hq (λw1=>aO lo true w1 h1);have hlo:1<=lo/\lo<=1000000000:=aE5 h1;obtain⟨hlo1,hlo2⟩:=hlo;by_cases h2:ids.length<=40
 case' neg=>
  have HP:=Hq (show TT=false by rw [ah HD,aEN h2];simp);have hb2:decide ((40:Int) < ids.length)=true:=aEO Aaa;exact ail
 have hb2:decide ((40:Int) < ids.length)=false:=aEN Aaa;have mW:Hid (TT=gV KB iL ids):=by rw [ah HD,h1,aEO h2];rfl
 clear HD h1;go_in
 go_wp2_with (go_at_call 170;refine(H1 _).mono ?_;rintro e w1 ⟨rfl,rfl⟩)
 go_loop [3,22] (λlv i=>∃(k:Nat) (y:Int),k<=ids.length/\i= .int .i64 k/\lv= .int .i64 y/\y=yE (λx=>x) (lo - 1) (ids.take k)/\gV KB iL (ids.take k)=true) (λ_ i=>ids.length - (intOf i).toNat)
 case atStart=>exact⟨0,lo - 1,aE1 _,rfl,Aaf,rfl,rfl⟩
 case round=>
  obtain⟨k,y,hk,rfl,rfl,hy,hall⟩:=hrel;have jr:=Hq hall;have HY:=Hq hy;have hy0:lo - 1<=y:=by rw [hy];exact HLB k hall
  clear hall hy;by_cases hlt:k < ids.length
  case' neg=>
   have hke:k=ids.length:=Aaa
   subst hke;have hnlt:decide ((ids.length:Int) < (ids.length:Int))=false:=Aac
   have HF:Hid (TT=true):=by
    exact Wj
   go_wp2_with fail;go_ret;exact⟨aF HF.symm,au w _⟩
  obtain⟨g,off,rfl,hgw,q0⟩:=bC.one (GR.At.below HA (au w (.cells #[.int .i64 fr,.int .i64 lo,.slice b ids.length c] 130))) k hlt;have HBAD:Hid (gV KB iL (ids.take (k+1))=false->TT=false):=λh=>mW.trans (yt _ h)
  have iE:Hid (gV KB iL (ids.take (k+1))=(KB ids[k]&&decide (y < ids[k]))):=by
   exact aia
  have zL:=Hq (zy k hlt);have DC:=Hq (Vp ids[k]);clear jJ zy yt Vp HLB;generalize ids[k]=x at *;by_cases h2:y < x
  case' neg=>
   have hb3:decide (x<=y)=true:=aEO Aaa;have HV:=Hq (HBAD (by rw [ah iE,ah DC];rw [aEN h2];simp));clear HBAD iE DC;go_wp2_with (fail)
   go_ret;exact⟨aF HV.symm,au w _⟩
  have hb3:decide (x<=y)=false:=aEN Aaa;cases h3:rA x
  case' false=>
   have H3:=Hq (λw1=>kD x false w1 h3);have h4:¬(0<=x/\x<=1000000000):=of_decide_eq_false h3;have HV:=Hq (HBAD (by rw [ah iE,ah DC];rw [aEN (show¬(lo<=x/\x<=1000000000) by omega)];rfl));clear HBAD iE DC h3 h4;go_wp2_with (go_at_call 193;refine(H3 _).mono ?_;rintro e w1 ⟨rfl,rfl⟩)
   go_ret;exact⟨aF HV.symm,au w _⟩
  have H3:=Hq (λw1=>kD x true w1 h3);have h4:0<=x/\x<=1000000000:=aE5 h3;have HV:=Hq (show gV KB iL (ids.take (k+1))=true by rw [ah iE,ah DC,aEO (show lo<=x/\x<=1000000000 by omega),aEO h2];rfl);clear HBAD iE DC h3 h4;go_wp2_with (go_at_call 193;refine(H3 _).mono ?_;rintro e w1 ⟨rfl,rfl⟩)
  exact aiH
end Go.Proofs.YtbolgdleijjgfaaGreatDoor
