/- Parts. -/
import Derived.Test.YtppmcficiphgdaaGreatDoorQa6
import Derived.Test.YtppmcficiphgdaaGreatDoorQa8
import Derived.Test.YtppmcficiphgdaaGreatDoorQbZ3
import Derived.Test.YtppmcficiphgdaaGreatDoorQa3
import Derived.Test.YtppmcficiphgdaaGreatDoorQa13
import Derived.Deep.SlicePairs
import Derived.ProofKit
namespace Go.Proofs.YtppmcficiphgdaaGreatDoor
set_option maxHeartbeats 4000000
set_option maxRecDepth 100000
open Go.RowKit
open Mth
theorem eqMsg (p:Mg) (w:World):Calls Tryz.prog 75 #[mgv p,mgv p] w fun e w'=>e= .returned (.bool true)∧Below w.heap.size w w':=by
 obtain⟨pK,pF,pT,pI,pL,pk,pN⟩:=p;go_enter Tryz.func75,Tryz.ntmps75
 go_wp2_with fail;go_ret;exact⟨rfl,((Below.refl _ _).alloc (Nat.le_refl _) _).alloc (by simp) _⟩
theorem eqMsgS (a b:Option Addr) (ca cb:Nat) (l:List Mg) (w:World) (hl:l.length≤1048600) (ha:MsgsAt w a l) (hb:MsgsAt w b l):
 Calls Tryz.prog 23 #[.slice a l.length ca,.slice b l.length cb] w fun e w'=>e= .returned (.bool true)∧Below w.heap.size w w':=by
 have HA:=hide ha;have HB:=hide hb;clear ha hb;go_enter Tryz.func23,Tryz.ntmps23
 go_wp2_with fail;go_loopw [5] (fun i wr=>∃k:Nat,k≤l.length∧i= .int .i64 k∧Below w.heap.size w wr) (fun i _=>l.length - (intOf i).toNat)
 case atStart=>exact⟨0,Nat.zero_le _,rfl,Below.refl _ _⟩
 case round=>
  obtain⟨k,hk,rfl,hbel⟩:=hrel;have HBL:=hide hbel;clear hbel;by_cases hlt:k < l.length
  ·obtain⟨g1,o1,rfl,hg1,s0,s1,s2,s3,s4,s5,s6⟩:=MsgsAt.seven (GR.At.below HA HBL) k hlt;obtain⟨g2,o2,rfl,hg2,t0,t1,t2,t3,t4,t5,t6⟩:=MsgsAt.seven (GR.At.below HB HBL) k hlt;generalize l[k]=pu at *;have HEQ:=hide (fun w1=>eqMsg pu w1);obtain⟨pK,pF,pT,pI,pL,pk,pN⟩:=pu;dsimp only at s0 s1 s2 s3 s4 s5 s6 t0 t1 t2 t3 t4 t5 t6;go_wp2_with fail
   go_region_held (fun w'=>(w'.cell? ⟨g1,o1+k*7,none⟩=some (.int .i64 pK)∧w'.cell? ⟨g1,o1+k*7+1,none⟩=some (.int .i64 pF)∧w'.cell? ⟨g1,o1+k*7+2,none⟩=some (.int .i64 pT)∧w'.cell? ⟨g1,o1+k*7+3,none⟩=some (.int .i64 pI)∧w'.cell? ⟨g1,o1+k*7+4,none⟩=some (.int .i64 pL)∧w'.cell? ⟨g1,o1+k*7+5,none⟩=some (.string pk)∧w'.cell? ⟨g1,o1+k*7+6,none⟩=some (.int .i64 pN))∧w'.cell? ⟨g2,o2+k*7,none⟩=some (.int .i64 pK)∧w'.cell? ⟨g2,o2+k*7+1,none⟩=some (.int .i64 pF)∧w'.cell? ⟨g2,o2+k*7+2,none⟩=some (.int .i64 pT)∧w'.cell? ⟨g2,o2+k*7+3,none⟩=some (.int .i64 pI)∧w'.cell? ⟨g2,o2+k*7+4,none⟩=some (.int .i64 pL)∧w'.cell? ⟨g2,o2+k*7+5,none⟩=some (.string pk)∧w'.cell? ⟨g2,o2+k*7+6,none⟩=some (.int .i64 pN)) (go_keep)
    (first
     |(go_at_call 75;refine(HEQ _).mono ?_;rintro e w5 ⟨rfl,hb5⟩;have hb6:Below wr.heap.size wr w5:=⟨hb5.os,hb5.tape,hb5.output,hb5.size,hb5.block⟩;clear hb5;have HBL5:=hide (HBL.trans (hb6.mono HBL.size));have y0:=(hb6.cell (p:=⟨g1,o1+k*7,none⟩) hg1).trans s0;have y1:=(hb6.cell (p:=⟨g1,o1+k*7+1,none⟩) hg1).trans s1;have y2:=(hb6.cell (p:=⟨g1,o1+k*7+2,none⟩) hg1).trans s2;have y3:=(hb6.cell (p:=⟨g1,o1+k*7+3,none⟩) hg1).trans s3;have y4:=(hb6.cell (p:=⟨g1,o1+k*7+4,none⟩) hg1).trans s4;have y5:=(hb6.cell (p:=⟨g1,o1+k*7+5,none⟩) hg1).trans s5;have y6:=(hb6.cell (p:=⟨g1,o1+k*7+6,none⟩) hg1).trans s6;have z0:=(hb6.cell (p:=⟨g2,o2+k*7,none⟩) hg2).trans t0;have z1:=(hb6.cell (p:=⟨g2,o2+k*7+1,none⟩) hg2).trans t1;have z2:=(hb6.cell (p:=⟨g2,o2+k*7+2,none⟩) hg2).trans t2;have z3:=(hb6.cell (p:=⟨g2,o2+k*7+3,none⟩) hg2).trans t3;have z4:=(hb6.cell (p:=⟨g2,o2+k*7+4,none⟩) hg2).trans t4;have z5:=(hb6.cell (p:=⟨g2,o2+k*7+5,none⟩) hg2).trans t5;have z6:=(hb6.cell (p:=⟨g2,o2+k*7+6,none⟩) hg2).trans t6;clear hb6))
   all_goals
    go_wp2_with fail
    go_roundw
    case rel=>exact⟨k+1,by omega,by go_num,HBL5⟩
    case measure=>simp[intOf];omega
  ·open Sb316 in exact Yb104
def mkMsg (k:Nat):Mg:=⟨(k:Int),(k:Int)+1,(k:Int)+2,(k:Int)+3,(k:Int)+4,mark (k+5),(k:Int)+6⟩
theorem GR.W.sevenM {w:World} {a:Option Addr} {g:Nat} {l:List Mg} (h:GR.W encM 7 w a g l) (i:Nat) (hi:i < l.length):a=some ⟨g,0,none⟩∧g < w.heap.size∧(w.cell? ⟨g,i*7,none⟩=some (.int .i64 l[i].K)∧w.cell? ⟨g,i*7+1,none⟩=some (.int .i64 l[i].F)∧w.cell? ⟨g,i*7+2,none⟩=some (.int .i64 l[i].T)∧w.cell? ⟨g,i*7+3,none⟩=some (.int .i64 l[i].I)∧w.cell? ⟨g,i*7+4,none⟩=some (.int .i64 l[i].L)∧w.cell? ⟨g,i*7+5,none⟩=some (.string l[i].k)∧w.cell? ⟨g,i*7+6,none⟩=some (.int .i64 l[i].N))∧w.frozen? ⟨g,i*7,none⟩=false∧w.frozen? ⟨g,i*7+1,none⟩=false∧w.frozen? ⟨g,i*7+2,none⟩=false∧w.frozen? ⟨g,i*7+3,none⟩=false∧w.frozen? ⟨g,i*7+4,none⟩=false∧w.frozen? ⟨g,i*7+5,none⟩=false∧w.frozen? ⟨g,i*7+6,none⟩=false:=by
 obtain⟨e,hg,hc⟩:=h i hi;exact⟨e,hg,⟨by simpa using(hc 0 (by omega)).1,by simpa using(hc 1 (by omega)).1,by simpa using(hc 2 (by omega)).1,by simpa using(hc 3 (by omega)).1,by simpa using(hc 4 (by omega)).1,by simpa using(hc 5 (by omega)).1,by simpa using(hc 6 (by omega)).1⟩,by simpa using(hc 0 (by omega)).2,(hc 1 (by omega)).2,(hc 2 (by omega)).2,(hc 3 (by omega)).2,(hc 4 (by omega)).2,(hc 5 (by omega)).2,(hc 6 (by omega)).2⟩
theorem markMsgG (a:Option Addr) (g c s:Nat) (l:List Mg) (w:World) (hs0:0 < s) (hs1:s≤4000000000000) (hl:l.length≤1048600) (ha:GR.W encM 7 w a g l):
 Calls Tryz.prog 25 #[.slice a l.length c,.int .i64 s] w fun e w'=>e= .returned (.int .i64 (s+7*(l.length:Int)))∧GR.W encM 7 w' a g (mks mkMsg 7 s l l.length)∧KeepsL (fp g l) w w':=by
 have HA:=hide ha;clear ha;go_enter Tryz.func25,Tryz.ntmps25
 go_wp2_with fail;go_loopw [1,5] (fun kk i wr=>∃k m:Nat,k≤l.length∧i= .int .i64 k∧kk= .int .i64 m∧m=s+7*k∧GR.W encM 7 wr a g (mks mkMsg 7 s l k)∧KeepsL (fp g l) w wr) (fun _ i _=>l.length - (intOf i).toNat)
 case atStart=>exact⟨0,s,Nat.zero_le _,rfl,rfl,rfl,by rw [mks_zero];exact HA,KeepsL.refl _ _⟩
 case round=>
  obtain⟨k,m,hk,rfl,rfl,hm,hR,hkp⟩:=hrel;have HM:=hide hm;have HR:=hide hR;have HK:=hide hkp;clear hR hkp;by_cases hlt:k < l.length
  ·have hml:=mks_length mkMsg 7 s l k hk;have hk':k < (mks mkMsg 7 s l k).length:=by rw [hml];exact hlt
   have hm0:0 < m:=by omega
   have hm1:(m:Int)≤92233720368547758:=by omega
   obtain⟨e0,hg0,⟨s0,s1,s2,s3,s4,s5,s6⟩,f0,f1,f2,f3,f4,f5,f6⟩:=GR.W.sevenM HR k hk';subst e0;have HMT:=hide (fun z w1 (hz:z=((m+5:Nat):Int))=>markTextI (m+5) z w1 hz (by omega) (by omega));have HML:=hide hml;clear hm hml;go_wp2_with (go_at_call 81;refine(HMT _ _ (by omega)).mono ?_;rintro e w1 ⟨rfl,hb1⟩;have HB1:=hide hb1;have hgz:=hb1.size;obtain⟨hcc,hff⟩:=bcell hb1;clear hb1)
   go_roundw
   case rel=>
    have hpos:0 < l.length:=by omega
    have h0:=GR.W.toC encM_length (by omega) HR;open Sb284 in exact Yb90
   case measure=>simp[intOf];omega
  ·open Sb315 in exact Yb104
theorem heldMsgG (a:Option Addr) (g c n s:Nat) (l:List Mg) (w:World) (hn:n=l.length) (hs0:0 < s) (hs1:s≤4000000000000) (hl:l.length≤1048600) (ha:GR.W encM 7 w a g (mks mkMsg 7 s l l.length)):
 Calls Tryz.prog 27 #[.slice a n c,.int .i64 s] w fun e w'=>e= .returned (.int .i64 (s+7*(l.length:Int)))∧Below w.heap.size w w':=by
 have HA:=hide ha;clear ha;subst hn;go_enter Tryz.func27,Tryz.ntmps27
 go_wp2_with fail;go_loopw [1,5] (fun kk i wr=>∃k m:Nat,k≤l.length∧i= .int .i64 k∧kk= .int .i64 m∧m=s+7*k∧Below w.heap.size w wr) (fun _ i _=>l.length - (intOf i).toNat)
 case atStart=>exact⟨0,s,Nat.zero_le _,rfl,rfl,rfl,Below.refl _ _⟩
 case round=>
  obtain⟨k,m,hk,rfl,rfl,hm,hbel⟩:=hrel;have HM:=hide hm;have HBL:=hide hbel;clear hbel;by_cases hlt:k < l.length
  ·have hm0:0 < m:=by omega
   have hm1:(m:Int)≤92233720368547758:=by omega
   obtain⟨e0,hgl,⟨s0,s1,s2,s3,s4,s5,s6⟩,_⟩:=GR.W.sevenM (GR.W.below HA HBL) k (by rw [mks_length mkMsg 7 s l l.length (Nat.le_refl _)];exact hlt);rw [mks_at mkMsg 7 s l l.length k hlt (Nat.le_refl _),←hm] at s0 s1 s2 s3 s4 s5 s6;dsimp only[mkMsg] at s0 s1 s2 s3 s4 s5 s6;subst e0;have HMT:=hide (fun z w1 (hz:z=((m+5:Nat):Int))=>markTextI (m+5) z w1 hz (by omega) (by omega));clear hm;open Sb283 in exact Yb90
  ·open Sb314 in exact Yb104
open Go.WideShapes
open Go.ChangeShapes
theorem ndIntCells:Tryz.prog.cellsOf 3=1:=by kernel_rfl
theorem ndStrCells:Tryz.prog.cellsOf 9=1:=by kernel_rfl
section
variable {H:Type} {enc:TypeId×Value→H} {W:World}
theorem open_rows {α:Type} {en:α→List Value} {sz:Nat} {ok:α→Prop} {t e:TypeId} {fuel:Nat} {cs:List Value} {x:DataW H×List MemPlace} (ht:Tryz.prog.underlying t=some (.slice e)) (hc:Tryz.prog.cellsOf e=sz) (hsz:0 < sz) (hs:∀y,(en y).length=sz)
 (hel:∀fuel cs' x,cs'.length=sz→DataW.trod enc Tryz.prog W 0 (fun _=>true) true fuel e cs'=some x→∃y,ok y∧cs'=en y)
 (h:DataW.trod enc Tryz.prog W 0 (fun _=>true) true fuel t cs=some x):
 ∃(a:Option Addr) (cap:Nat) (l:List α),cs=[.slice a l.length cap]∧l.length≤maxLen∧(∀y∈l,ok y)∧GR.At en sz W a l:=by
 rcases Deep.open_slice ht h with⟨hcs,_⟩|⟨x,len,cap,m,n,D,Pl,hcs,_,hlc,hcm,hm,_,hcell⟩
 ·exact⟨none,0,[],hcs,by simp,fun p hp=>by simp at hp,fun i hi=>by simp at hi⟩
 ·have hm':m=cap:=by rw [hm];simp
  have each:∀i,i < len→∃q:α,ok q∧∀j,j < sz→W.cell? (x.add (i*sz+j))=(en q)[j]?:=by
   intro i hi;obtain⟨cs',h1,h2⟩:=hcell i (by omega);rw [hc] at h1;obtain⟨_,hlen,hcc⟩:=World.cells?_some h1;obtain⟨y,hy,rfl⟩:=hel _ _ _ hlen h2;refine⟨y,hy,fun j hj=>?_⟩;have e:=hcc j (by omega);rw [Deep.add_add] at e;exact e
  have hd:Nonempty α∨len=0:=by
   by_cases h0:len=0
   ·exact .inr h0
   ·obtain⟨q,_⟩:=each 0 (by omega);exact .inl ⟨q⟩
  rcases hd with d|d
  ·obtain⟨q,hq⟩:∃q:Nat→α,∀i,i < len→ok (q i)∧∀j,j < sz→W.cell? (x.add (i*sz+j))=(en (q i))[j]?:=by
    exact⟨fun i=>if hi:i < len then(each i hi).choose else Classical.choice d,fun i hi=>by simp only[dif_pos hi];exact(each i hi).choose_spec⟩
   refine⟨some x,cap,(List.range len).map q,by rw [hcs];simp,by simp;omega,fun p hp=>?_,fun i hi=>?_⟩
   ·obtain⟨i,hi,rfl⟩:=List.mem_map.1 hp;exact(hq i (List.mem_range.1 hi)).1
   ·have hi':i < len:=by simpa using hi
    obtain⟨b,off,spot⟩:=x;have h0:=(hq 0 (by omega)).2 0 hsz;have hne:∃v,(en (q 0))[0]?=some v:=⟨_,List.getElem?_eq_getElem (by rw [hs];exact hsz)⟩;obtain⟨v0,hv0⟩:=hne;rw [hv0] at h0;have hspot:spot=none:=by simpa [Addr.add] using World.cell?_spot h0
    subst hspot;have h1:=(hq i hi').2;have ea:∀k:Nat,(⟨b,off,none⟩:Addr).add k=⟨b,off+k,none⟩:=fun k=>by unfold Addr.add;split<;>simp_all
    have h3:=h1 0 hsz;rw [ea,List.getElem?_eq_getElem (by rw [hs];exact hsz)] at h3;refine⟨b,off,rfl,World.block_lt_of_cell? _ _ h3,fun j hj=>?_⟩;have h2:=h1 j hj;rw [ea] at h2;simpa using h2
  ·subst d;exact⟨some x,cap,[],by rw [hcs];simp,by simp,fun p hp=>by simp at hp,fun i hi=>by simp at hi⟩
theorem open_ints' {fuel:Nat} {cs:List Value} {x:DataW H×List MemPlace} (h:DataW.trod enc Tryz.prog W 0 (fun _=>true) true fuel 24 cs=some x):
 ∃(a:Option Addr) (cap:Nat) (l:List Int),cs=[.slice a l.length cap]∧l.length≤maxLen∧IntsAt W a l:=by
 obtain⟨a,cap,l,h1,h2,_,h4⟩:=open_rows (en:=encNum) (sz:=1) (ok:=fun _=>True) Tryz.underlying24 ndIntCells (by omega) encNum_length (fun fuel cs' x _ h=>by
  obtain⟨n,q,_⟩:=DataW.trod_int Tryz.underlying3 h
  exact⟨n,trivial,q⟩) h
 exact⟨a,cap,l,h1,h2,h4⟩
theorem open_purses' {fuel:Nat} {cs:List Value} {x:DataW H×List MemPlace} (h:DataW.trod enc Tryz.prog W 0 (fun _=>true) true fuel 50 cs=some x):
 ∃(a:Option Addr) (cap:Nat) (l:List Pu),cs=[.slice a l.length cap]∧l.length≤maxLen∧(∀y∈l,y.k.size≤maxLen)∧PursesAt W a l:=
 open_rows (en:=encP) (sz:=4) (ok:=fun y=>y.k.size≤maxLen) Tryz.underlying50 (by kernel_rfl) (by omega) encP_length (fun fuel cs' x hlen h=>by
  obtain⟨xs,k,_,_,_,hxl,hfl⟩:=DataW.trod_struct Tryz.underlying160 h
  match xs,hxl,cs',hlen with
  |[y0,y1,y2,y3],_,[v0,v1,v2,v3],_=>
   have g0:=hfl 0 _ rfl
   have g1:=hfl 1 _ rfl
   have g2:=hfl 2 _ rfl
   have g3:=hfl 3 _ rfl
   simp[ndIntCells,ndStrCells] at g0 g1 g2 g3
   obtain⟨s0,q0,_,hs0⟩:=DataW.trod_string Tryz.underlying9 g0
   obtain⟨n1,q1,_⟩:=DataW.trod_int Tryz.underlying3 g1
   obtain⟨n2,q2,_⟩:=DataW.trod_int Tryz.underlying3 g2
   obtain⟨n3,q3,_⟩:=DataW.trod_int Tryz.underlying3 g3
   simp at q0 q1 q2 q3
   subst q0 q1 q2 q3
   exact⟨⟨s0,n1,n2,n3⟩,hs0,rfl⟩) h
theorem open_sents {fuel:Nat} {cs:List Value} {x:DataW H×List MemPlace} (h:DataW.trod enc Tryz.prog W 0 (fun _=>true) true fuel 51 cs=some x):
 ∃(a:Option Addr) (cap:Nat) (l:List Snt),cs=[.slice a l.length cap]∧l.length≤maxLen∧(∀y∈l,y.k.size≤maxLen)∧SentAt W a l:=
 open_rows (en:=encSnt) (sz:=4) (ok:=fun y=>y.k.size≤maxLen) Tryz.underlying51 (by kernel_rfl) (by omega) encSnt_length (fun fuel cs' x hlen h=>by
  obtain⟨xs,k,_,_,_,hxl,hfl⟩:=DataW.trod_struct Tryz.underlying162 h
  match xs,hxl,cs',hlen with
  |[y0,y1,y2,y3],_,[v0,v1,v2,v3],_=>
   have g0:=hfl 0 _ rfl
   have g1:=hfl 1 _ rfl
   have g2:=hfl 2 _ rfl
   have g3:=hfl 3 _ rfl
   simp[ndIntCells,ndStrCells] at g0 g1 g2 g3
   obtain⟨n0,q0,_⟩:=DataW.trod_int Tryz.underlying3 g0
   obtain⟨n1,q1,_⟩:=DataW.trod_int Tryz.underlying3 g1
   obtain⟨s2,q2,_,hs2⟩:=DataW.trod_string Tryz.underlying9 g2
   obtain⟨n3,q3,_⟩:=DataW.trod_int Tryz.underlying3 g3
   simp at q0 q1 q2 q3
   subst q0 q1 q2 q3
   exact⟨⟨n0,n1,s2,n3⟩,hs2,rfl⟩) h
theorem open_reqs {fuel:Nat} {cs:List Value} {x:DataW H×List MemPlace} (h:DataW.trod enc Tryz.prog W 0 (fun _=>true) true fuel 53 cs=some x):
 ∃(a:Option Addr) (cap:Nat) (l:List Rq),cs=[.slice a l.length cap]∧l.length≤maxLen∧(∀y∈l,y.k.size≤maxLen)∧ReqAt W a l:=
 open_rows (en:=encRq) (sz:=4) (ok:=fun y=>y.k.size≤maxLen) Tryz.underlying53 (by kernel_rfl) (by omega) encRq_length (fun fuel cs' x hlen h=>by
  obtain⟨xs,k,_,_,_,hxl,hfl⟩:=DataW.trod_struct Tryz.underlying166 h
  match xs,hxl,cs',hlen with
  |[y0,y1,y2,y3],_,[v0,v1,v2,v3],_=>
   have g0:=hfl 0 _ rfl
   have g1:=hfl 1 _ rfl
   have g2:=hfl 2 _ rfl
   have g3:=hfl 3 _ rfl
   simp[ndIntCells,ndStrCells] at g0 g1 g2 g3
   obtain⟨n0,q0,_⟩:=DataW.trod_int Tryz.underlying3 g0
   obtain⟨s1,q1,_,hs1⟩:=DataW.trod_string Tryz.underlying9 g1
   obtain⟨n2,q2,_⟩:=DataW.trod_int Tryz.underlying3 g2
   obtain⟨n3,q3,_⟩:=DataW.trod_int Tryz.underlying3 g3
   simp at q0 q1 q2 q3
   subst q0 q1 q2 q3
   exact⟨⟨n0,s1,n2,n3⟩,hs1,rfl⟩) h
theorem ndSlcCells:Tryz.prog.cellsOf 24=1:=by kernel_rfl
theorem open_seen {fuel:Nat} {cs:List Value} {x:DataW H×List MemPlace} (h:DataW.trod enc Tryz.prog W 0 (fun _=>true) true fuel 52 cs=some x):
 ∃(a:Option Addr) (cap:Nat) (l:List Sn),cs=[.slice a l.length cap]∧l.length≤maxLen∧(∀y∈l,y.ids.length≤maxLen)∧SeenAt W a l:=by
 obtain⟨a,cap,l,h1,h2,h3,h4⟩:=open_rows (en:=encR3) (sz:=3) (ok:=fun y=>∃b c,∃ids:List Int,y.v= .slice b ids.length c∧ids.length≤maxLen∧IntsAt W b ids) Tryz.underlying52 (by kernel_rfl) (by omega) encR3_length (fun fuel cs' x hlen h=>by
  obtain⟨xs,k,_,_,_,hxl,hfl⟩:=DataW.trod_struct Tryz.underlying164 h
  match xs,hxl,cs',hlen with
  |[y0,y1,y2],_,[v0,v1,v2],_=>
   have g0:=hfl 0 _ rfl
   have g1:=hfl 1 _ rfl
   have g2:=hfl 2 _ rfl
   simp[ndIntCells,ndSlcCells] at g0 g1 g2
   obtain⟨n0,q0,_⟩:=DataW.trod_int Tryz.underlying3 g0
   obtain⟨n1,q1,_⟩:=DataW.trod_int Tryz.underlying3 g1
   obtain⟨b,c,ids,q2,hi1,hi2⟩:=open_ints' g2
   simp at q0 q1 q2
   subst q0 q1 q2
   exact⟨⟨n0,n1,.slice b ids.length c⟩,⟨b,c,ids,rfl,hi1,hi2⟩,rfl⟩) h
 have hex:∀y:R3,∃s:Sn,y∈l→(s.f=y.f∧s.l=y.l∧∃b c,y.v= .slice b s.ids.length c∧s.ids.length≤maxLen∧IntsAt W b s.ids):=fun y=>by
  by_cases hy:y∈l
  ·obtain⟨b,c,ids,e1,e2,e3⟩:=h3 y hy;exact⟨⟨y.f,y.l,ids⟩,fun _=>⟨rfl,rfl,b,c,e1,e2,e3⟩⟩
  ·exact⟨default,fun h=>absurd h hy⟩
 refine⟨a,cap,l.map (fun y=>(hex y).choose),by rw [h1];simp,by simpa using h2,?_,?_⟩
 ·intro s hs;obtain⟨y,hy,rfl⟩:=List.mem_map.1 hs;obtain⟨_,_,b,c,_,e2,_⟩:=(hex y).choose_spec hy;exact e2
 ·intro i hi;have hi':i < l.length:=by simpa using hi
  obtain⟨g,off,e,hg,hc⟩:=h4 i hi';have hsp:=(hex l[i]).choose_spec (List.getElem_mem hi');have hge:(l.map (fun y=>(hex y).choose))[i]=(hex l[i]).choose:=by simp
  rw [hge];obtain⟨s1,s2,b,c,e1,e2,e3⟩:=hsp;refine⟨g,off,b,c,e,hg,?_,?_,?_,e3⟩
  ·rw [s1];simpa using hc 0 (by omega)
  ·rw [s2];simpa [Nat.add_assoc] using hc 1 (by omega)
  ·rw [←e1];simpa [Nat.add_assoc] using hc 2 (by omega)
theorem array_nine {α:Type} {cs:Array α} (h:cs.size=9):∃a b c d e f g i j,cs=#[a,b,c,d,e,f,g,i,j]:=by
 obtain⟨l⟩:=cs;match l,h with
 |[a,b,c,d,e,f,g,i,j],_=>exact⟨a,b,c,d,e,f,g,i,j,rfl⟩
theorem ndCells:Tryz.prog.cellsOf 55=9:=by kernel_rfl
theorem ndSl1:Tryz.prog.cellsOf 50=1:=by kernel_rfl
theorem ndSl2:Tryz.prog.cellsOf 51=1:=by kernel_rfl
theorem ndSl3:Tryz.prog.cellsOf 52=1:=by kernel_rfl
theorem ndSl4:Tryz.prog.cellsOf 53=1:=by kernel_rfl
theorem open_node {r:Reach} {base:Nat} {v:Value} {d:DataW H} {p:List MemPlace} (hv:Value.okWide Tryz.prog W r base 55 v) (h:DataW.Trod enc Tryz.prog W 0 (fun _=>true) true 55 v d p):
 ∃(n:Nd) (A:Ads),v=ndv n A∧NdSz n maxLen∧NodeAt W A n:=by
 simp only[Value.okWide,Tryz.underlying55] at hv;obtain⟨cs,rfl,hsz,ts,hts,_,hall⟩:=hv;obtain⟨fuel,hf⟩:=h;obtain⟨a0,a1,a2,a3,a4,a5,a6,a7,a8,rfl⟩:=array_nine (hsz.trans ndCells);obtain⟨xs,k,_,_,_,hxl,hfl⟩:=DataW.trod_struct Tryz.underlying55 hf;match xs,hxl with
 |[y0,y1,y2,y3,y4,y5,y6,y7,y8],_=>
  have g0:=hfl 0 _ rfl
  have g1:=hfl 1 _ rfl
  have g2:=hfl 2 _ rfl
  have g3:=hfl 3 _ rfl
  have g4:=hfl 4 _ rfl
  have g5:=hfl 5 _ rfl
  have g6:=hfl 6 _ rfl
  have g7:=hfl 7 _ rfl
  have g8:=hfl 8 _ rfl
  simp[ndIntCells,ndSlcCells,ndSl1,ndSl2,ndSl3,ndSl4,Value.cells] at g0 g1 g2 g3 g4 g5 g6 g7 g8
  obtain⟨n0,q0,_⟩:=DataW.trod_int Tryz.underlying3 g0
  obtain⟨n1,q1,_⟩:=DataW.trod_int Tryz.underlying3 g1
  obtain⟨b2,c2,l2,q2,z2,t2⟩:=open_ints' g2
  obtain⟨n3,q3,_⟩:=DataW.trod_int Tryz.underlying3 g3
  obtain⟨b4,c4,l4,q4,z4,s4,t4⟩:=open_purses' g4
  obtain⟨b5,c5,l5,q5,z5,s5,t5⟩:=open_sents g5
  obtain⟨b6,c6,l6,q6,z6,s6,t6⟩:=open_seen g6
  obtain⟨n7,q7,_⟩:=DataW.trod_int Tryz.underlying3 g7
  obtain⟨b8,c8,l8,q8,z8,s8,t8⟩:=open_reqs g8
  simp at q0 q1 q2 q3 q4 q5 q6 q7 q8
  subst q0 q1 q2 q3 q4 q5 q6 q7 q8
  exact⟨⟨n0,n1,l2,n3,l4,l5,l6,n7,l8⟩,⟨b2,b4,b5,b6,b8,c2,c4,c5,c6,c8⟩,rfl,⟨z2,z4,z5,z6,z8,s4,s5,s6,s8⟩,⟨t2,t4,t5,t6,t8⟩⟩
end
set_option maxHeartbeats 1000000
theorem toMsg (m:Mg) (w:World):Calls Tryz.prog 69 #[mgv m] w fun e w'=>e= .returned (mgv m)∧Below w.heap.size w w':=by
 obtain⟨K,F,T,I,L,k,N⟩:=m;go_enter Tryz.func69,Tryz.ntmps69
 go_wp2_with fail;refine bodyPost_ret (v:= .agg #[.int .i64 K,.int .i64 F,.int .i64 T,.int .i64 I,.int .i64 L,.string k,.int .i64 N]) (by simp[results,Tryz.results69,go_sem]) rfl ⟨rfl,?_⟩;exact(((Below.refl _ _).alloc (Nat.le_refl _) _).alloc (by simp) _).alloc (by simp;omega) _
theorem mgCells:Tryz.prog.cellsOf 56=7:=by kernel_rfl
theorem mgIntCells:Tryz.prog.cellsOf 3=1:=by kernel_rfl
theorem mgStrCells:Tryz.prog.cellsOf 9=1:=by kernel_rfl
end Go.Proofs.YtppmcficiphgdaaGreatDoor
