/- Parts. -/
import Derived.Test.YtfachhcijcjbpaaGreatDoorRw20
namespace Go.Proofs.YtfachhcijcjbpaaGreatDoor
open Go.Proofs.Tryz
set_option maxHeartbeats 8000000
set_option maxRecDepth 100000
open Go.RowKit
open Mth
variable {id par:Int} {n:Nd}
namespace Mth
def upTo (n:Nat):List Int:=(List.range n).map Int.ofNat
theorem adS (n:Nat):(upTo n).Pairwise (· < ·):=by
 unfold upTo;rw [List.pairwise_map];exact List.pairwise_lt_range.imp (λ{a b} h=>by show(a:Int) < (b:Int);omega)
theorem adT (n:Nat) (x:Int):x∈upTo n↔0<=x/\x < n:=by
 unfold upTo;rw [aFS];constructor
 .rintro⟨a,ha,rfl⟩;have:=aFA.1 ha;show 0<=(a:Int)/\(a:Int) < n
  omega
 .intro h;exact⟨x.toNat,aFA.2 Aaa,by show((x.toNat:Nat):Int)=x;omega⟩
theorem acK {l:List Int} (h:gL (jZ id par) iF l=true):l.length<=30:=by
 obtain⟨h1,h2⟩:=(uh (r:=iF) mY).1 h
 have h3:=akw (upTo 30) l (h2.imp (λ{a b} h=>aEQ h)) (adS 30) (λx hx=>by
  have h4:=h1 x hx
  unfold jZ uH at h4
  simp only[aED,aES] at h4
  rw [adT]
  omega)
 simpa [upTo] using h3
def Gc (n:Nd):Bool:=uH n.id&&(decide (n.par= -1)||(uH n.par&&decide (n.par≠n.id)))&&gL (jZ n.id n.par) iF n.kids
theorem Va (n:Nd):Gc n=dX n:=by
 unfold Gc dX;cases hc:gL (jZ n.id n.par) iF n.kids
 .simp
 .rw [aEy (acK hc)];cases hi:uH n.id
  .simp
  .have h0:0<=n.id/\n.id<=29:=aEQ hi;by_cases h1:n.par= -1
   .have h2:n.par≠n.id:=Aaa
    rw [aEy h1,aEy h2,aEy (show -1<=n.par/\n.par<=29 by omega)];rfl
   .rw [aEw h1];unfold uH;by_cases h2:0<=n.par/\n.par<=29
    .rw [aEy h2,aEy (show -1<=n.par/\n.par<=29 by omega)];simp
    .rw [aEw h2,aEw (show¬(-1<=n.par/\n.par<=29) by omega)];simp
theorem afy {x:Int} (h:jZ id par x=true): -1 < x:=by
 unfold jZ uH at h;exact abk
theorem ach {low x:Int} (h:DW low x=true):low - 1 < x:=by
 unfold DW at h;simp only[aES] at h;omega
theorem Xl {s:jI} (h:wm n s=true):0 < s.i:=by
 unfold wm at h;exact abk
theorem Xp {s:Rq} (h:sV n s=true):n.old < s.no:=by
 unfold sV at h;exact abk
end Mth
theorem Uu (n:Nd) (A:bg) (w:World) (hl:n.kids.length<=1048600) (ha:aK w A.k n.kids):
 Calls Tryz.prog 177 #[gP n A] w (dK w (.bool (Gc n))):=by
 have HA:=Hq ha;have HD:Hid (Gc n=(uH n.id&&(decide (n.par= -1)||(uH n.par&&decide (n.par≠n.id)))&&gL (jZ n.id n.par) iF n.kids)):=rfl;have xR:=Hq (λk h=>oV (jZ n.id n.par) iF n.kids k h);have jr:=Hq (λk h=>zO (jZ n.id n.par) (λx=>x) (-1) (λx=>afy) n.kids k h);have zo:=Hq (λk h=>uF (λx:Int=>x) (-1) n.kids k h);have VR:=Hq (λx=>show jZ n.id n.par x=(uH x&&decide (x≠n.id)&&decide (x≠n.par)) from rfl);have jL:=Hq (aEu w (.cells (dR n A) 53));generalize Gc n=TT at *;generalize jZ n.id n.par=KB at *;open aoO in exact xG
theorem Qm (s:Sn) (b:Option Addr) (c:Nat) (w:World) (hl:s.ids.length<=1048600) (ha:aK w b s.ids):
 Calls Tryz.prog 197 #[.agg #[.int .i64 s.f,.int .i64 s.l,.slice b s.ids.length c]] w (dK w (.bool (vK s))):=by
 obtain⟨fr,lo,ids⟩:=s;dsimp only at hl ha ⊢;have HA:=Hq ha;have HD:Hid (vK ⟨fr,lo,ids⟩=(fC lo&&decide (ids.length<=40)&&gL (DW lo) iF ids)):=rfl;have xR:=Hq (λk h=>oV (DW lo) iF ids k h);have jr:=Hq (λk h=>zO (DW lo) (λx=>x) (lo - 1) (λx=>ach) ids k h);have zo:=Hq (λk h=>uF (λx:Int=>x) (lo - 1) ids k h);have HLB:=Hq (λk (h:gL (DW lo) iF (ids.take k)=true)=>BJ (key:=λx=>x) (y0:=lo - 1) (λx=>ach) h);have VR:=Hq (λx=>show DW lo x=decide (lo<=x/\x<=1000000000) from rfl);generalize vK ⟨fr,lo,ids⟩=TT at *;generalize DW lo=KB at *;clear ha;cases h1:fC lo
 case' false=>
  have HP:Hid (TT=false):=by rw [ah HD,h1];rfl
  have H1:=Hq (λw1=>aL lo false w1 h1);exact aiu
 have H1:=Hq (λw1=>aL lo true w1 h1);have hlo:1<=lo/\lo<=1000000000:=aEQ h1;obtain⟨hlo1,hlo2⟩:=hlo;by_cases h2:ids.length<=40
 case' neg=>
  have HP:=Hq (show TT=false by rw [ah HD,aEw h2];simp);have hb2:decide ((40:Int) < ids.length)=true:=aEy Aaa;exact aiu
 have hb2:decide ((40:Int) < ids.length)=false:=aEw Aaa;have nD:Hid (TT=gL KB iF ids):=by rw [ah HD,h1,aEy h2];rfl
 clear HD h1;go_in
 go_wp2_with (go_at_call 179;refine(H1 _).mono ?_;rintro e w1 ⟨rfl,rfl⟩)
 go_loop [3,22] (λlv i=>∃(k:Nat) (y:Int),k<=ids.length/\i= .int .i64 k/\lv= .int .i64 y/\y=yg (λx=>x) (lo - 1) (ids.take k)/\gL KB iF (ids.take k)=true) (λ_ i=>ids.length - (intOf i).toNat)
 case atStart=>exact⟨0,lo - 1,aEN _,rfl,Aaf,rfl,rfl⟩
 case round=>
  obtain⟨k,y,hk,rfl,rfl,hy,hall⟩:=hrel;have kS:=Hq hall;have HY:=Hq hy;have hy0:lo - 1<=y:=by rw [hy];exact HLB k hall
  clear hall hy;by_cases hlt:k < ids.length
  case' neg=>
   have hke:k=ids.length:=Aaa
   subst hke;have hnlt:decide ((ids.length:Int) < (ids.length:Int))=false:=Aac
   have HF:Hid (TT=true):=by
    exact WE
   go_wp2_with fail;go_ret;exact⟨aF HF.symm,au w _⟩
  obtain⟨g,off,rfl,hgw,q0⟩:=aK.one (GR.At.below HA (au w (.cells #[.int .i64 fr,.int .i64 lo,.slice b ids.length c] 144))) k hlt;have HBAD:Hid (gL KB iF (ids.take (k+1))=false->TT=false):=λh=>nD.trans (xR _ h)
  have gu:Hid (gL KB iF (ids.take (k+1))=(KB ids[k]&&decide (y < ids[k]))):=by
   exact ail
  have zy:=Hq (zo k hlt);have Dv:=Hq (VR ids[k]);clear jr zo xR VR HLB;generalize ids[k]=x at *;by_cases h2:y < x
  case' neg=>
   have hb3:decide (x<=y)=true:=aEy Aaa;have HV:=Hq (HBAD (by rw [ah gu,ah Dv];rw [aEw h2];simp));clear HBAD gu Dv;go_wp2_with (fail)
   go_ret;exact⟨aF HV.symm,au w _⟩
  have hb3:decide (x<=y)=false:=aEw Aaa;cases h3:qM x
  case' false=>
   have H3:=Hq (λw1=>jY x false w1 h3);have h4:¬(0<=x/\x<=1000000000):=of_decide_eq_false h3;have HV:=Hq (HBAD (by rw [ah gu,ah Dv];rw [aEw (show¬(lo<=x/\x<=1000000000) by omega)];rfl));clear HBAD gu Dv h3 h4;go_wp2_with (go_at_call 198;refine(H3 _).mono ?_;rintro e w1 ⟨rfl,rfl⟩)
   go_ret;exact⟨aF HV.symm,au w _⟩
  have H3:=Hq (λw1=>jY x true w1 h3);have h4:0<=x/\x<=1000000000:=aEQ h3;have HV:=Hq (show gL KB iF (ids.take (k+1))=true by rw [ah gu,ah Dv,aEy (show lo<=x/\x<=1000000000 by omega),aEy h2];rfl);clear HBAD gu Dv h3 h4;go_wp2_with (go_at_call 198;refine(H3 _).mono ?_;rintro e w1 ⟨rfl,rfl⟩)
  exact aiO
namespace Mth
def aDl (id par:Int) (kids fs:List Int):Nd:=⟨id,par,kids,1,[],[],fs.map (λx=>⟨x,1,[]⟩),0,[]⟩
def aDe:Nd:=⟨0,0,[],0,[],[],[],0,[]⟩
end Mth
def aCW (x:Int):R3:=⟨x,1,.slice none 0 0⟩
abbrev nnc (id par:Int) (kv v:Value):Array Value:=#[.int .i64 id,.int .i64 par,kv,.int .i64 1,.slice none 0 0,.slice none 0 0,v,.int .i64 0,.slice none 0 0]
structure NN (w2 wr:World) (nb:Nat) (id par:Int) (kv v:Value) (fs:List Int):Prop where
 keep:aC [nb] w2 wr
 blk:wr.heap[nb]?=some (.cells (nnc id par kv v) 53 (0,0))
 own:wr.ownsRow w2.heap.size 144 3 v fs.length (GR.flat eF (fs.map aCW))
 lt:nb < w2.heap.size
theorem rIn (x a b:Int) (r:Bool) (wc:World) (hb:decide (a<=x/\x<=b)=r):∀d os,Calls Tryz.prog 33 #[.int .i64 x,.int .i64 a,.int .i64 b] (Sort.grow (redrawn wc d) os) λe w''=>e= .returned (.bool r)/\∃p:Regrown,w''=Sort.grow (redrawn wc p.d) p.os:=λ_ _=>
 aE1 ((yO x a b r _ hb).mono λ_ _ ⟨he,hw⟩=>⟨he,hw▸aEK _ _⟩)
theorem afO (s:ByteArray) (b:Bool) (wc:World) (hs:s.size<=maxLen) (hb:keyOk s.data.toList=b):∀d os,Calls Tryz.prog 62 #[.string s] (Sort.grow (redrawn wc d) os) λe w''=>e= .returned (.bool b)/\∃p:Regrown,w''=Sort.grow (redrawn wc p.d) p.os:=λ_ _=>
 aE1 ((nY s b _ hs hb).mono λ_ _ ⟨he,hw⟩=>⟨he,hw▸aEK _ _⟩)
theorem iq {w:World} {g:Nat} {v0 v1 v2 v3:Value} {t:TypeId} (h:w.heap[g]?=some (.cells #[v0,v1,v2,v3] t (0,0))):
 w.cell? ⟨g,0,none⟩=some v0/\w.cell? ⟨g,1,none⟩=some v1/\w.cell? ⟨g,2,none⟩=some v2/\w.cell? ⟨g,3,none⟩=some v3:=by
 have hc:∀i,w.cell? ⟨g,i,none⟩=#[v0,v1,v2,v3][i]?:=λi=>aEz w g i _ t (0,0) h
 exact⟨hc 0,hc 1,hc 2,hc 3⟩
theorem acM (x:Int) (b:Bool) (w:World) (h:qM x=b):Calls Tryz.prog 60 #[.int .i64 x] w λe w'=>e= .returned (.bool b)/\w=w':=by
 rw [<-h];exact wQ x w
theorem Mth.ndOk_head (n:Nd):dQ n=((dX n&&iZ n.pu&&nZ n&&fC n.next&&decide (n.out.length<=40)&&qM n.old&&decide (n.reqs.length<=30))&&(gL (wm n) (λs t=>iF s.i t.i) n.out&&gL (sV n) (λs t=>iF s.no t.no) n.reqs)):=by
 unfold dQ sD gQ;cases dX n<;>cases iZ n.pu<;>cases nZ n<;>cases fC n.next<;>cases decide (n.out.length<=40)<;>cases qM n.old<;>cases decide (n.reqs.length<=30)<;>simp
theorem qA (n:Nd) (A:bg) (w:World) (hz:eH n 1048600) (ha:bX w A n):
 Calls Tryz.prog 34 #[gP n A] w (dK w (.bool (dQ n))):=by
 have HA:=Hq ha;have HZ:=Hq hz;have DC:=Hq (λw1 (hb:aG w w1)=>Zz n A w1 hz.k (ha.below hb).k);have HPU:=Hq (λw1 (hb:aG w w1)=>pE A.p A.cp n.pu w1 hz.p (λp hp=>aEA (hz.pk p hp) Aai) (ha.below hb).p);have Bq:=Hq (λw1 (hb:aG w w1)=>adG n A w1 hz.k hz.s hz.sk (ha.below hb).k (ha.below hb).s);have SI:=Hq (λx b wc (hb:aG w wc) (h:dU n x=b)=>ajs n A x b wc hz.k (ha.below hb).k h);have HOT:=Hq (fun(s:jI)=>show wm n s=(decide (1<=s.i/\s.i<=n.next - 1)&&dU n s.t&&keyOk s.k.data.toList&&fC s.n) from rfl);have OO:=Hq (fun(s:Rq)=>show sV n s=(decide (n.old+1<=s.no/\s.no<=1000000000)&&keyOk s.k.data.toList&&fC s.n&&decide (0<=s.s/\s.s<=2)) from rfl);have HD:=Hq (ndOk_head n);have jL:=Hq (aEu w (.cells (dR n A) 53));generalize dX n=PL at *;generalize iZ n.pu=PS at *;generalize nZ n=TD at *;generalize wm n=OT at *;generalize sV n=RQ at *;generalize dU n=NN at *;generalize dQ n=TT at *;open aoP in exact xG
end Go.Proofs.YtfachhcijcjbpaaGreatDoor
