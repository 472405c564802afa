/- Parts. -/
import Derived.Test.YtacgbldlonoaaaaGreatDoorRw11
import Derived.Test.YtacgbldlonoaaaaGreatDoorRw13
import Derived.Test.YtacgbldlonoaaaaGreatDoorRw7
namespace Go.Proofs.YtacgbldlonoaaaaGreatDoor
open Go.Proofs.Tryz
set_option maxHeartbeats 4000000
set_option maxRecDepth 100000
open Go.RowKit
open Mth
variable (id par:Int) (kids fs:List Int) {w w' w2 wr:World} {l:List Int} {mb n nb g:Nat} {v kv:Value} {x low:Int} {D:DataW Unit}
theorem Xz (a:Option Addr) (cap:Nat) (l:List Int) (x:Int) (w:World) (hl:l.length<=1048600) (ha:dX w a l):
 Calls prog 229 #[.slice a l.length cap,.int .i64 x] w λe w'=>(∃i:Int,e= .returned (.int .i64 i)/\decide (0<=i)=hasB l x)/\w=w':=by
 have HA:=Hq ha;clear ha;go_in
 go_wp2_with fail;go_loop [8] (λi=>∃k:Nat,k<=l.length/\i= .int .i64 k/\hasB (l.take k) x=false) (λi=>l.length - (intOf i).toNat)
 case atStart=>exact⟨0,Nat.zero_le _,rfl,rfl⟩
 case round=>
  obtain⟨k,hk,rfl,hno⟩:=hrel;have HN:=Hq hno;clear hno;by_cases hlt:k < l.length
  .obtain⟨g,off,rfl,hgw,q0⟩:=dX.one HA k hlt;by_cases hx:l[k]=x
   .have HY:=Hq (has_yes l x k hlt hx);rw [hx] at q0;clear hx;go_wp2_with fail;go_ret;exact⟨⟨k,rfl,by rw [ah HY];simp⟩,rfl⟩
   .have HS:=Hq (has_snoc l x k hlt);rw [decide_eq_false hx] at HS;have hx':¬(x=l[k]):=λh=>hx h.symm
    exact ag1
  .open an0 in exact Hu
theorem LK (a:Option Addr) (cap:Nat) (l:List Int) (x:Int) (w:World) (hl:l.length<=1048600) (ha:dX w a l):
 Calls prog 192 #[.slice a l.length cap,.int .i64 x] w λe w'=>e= .returned (.bool (hasB l x))/\w=w':=by
 have HI:=Hq (Xz a cap l x w hl ha);clear ha;go_in
 go_wp2_with fail;refine HI.mono ?_;rintro e w1 ⟨⟨i,rfl,hi⟩,rfl⟩;have HD:=Hq hi;clear hi;go_wp2_with fail;go_ret;exact⟨aD HD,rfl⟩
theorem Ci (n:Nd) (A:bC) (x:Int) (w:World) (hl:n.kids.length<=1048600) (ha:dX w A.k n.kids):
 Calls prog 169 #[fT n A,.int .i64 x] w (fF w (.bool (hasB n.kids x))):=by
 have HH:=Hq (LK A.k A.ck n.kids x (w.alloc (.cells (dD n A) 30)) hl (GR.At.below ha (au w _)));clear ha;go_in
 go_wp2_with (go_at_call 192;refine HH.mono ?_;rintro e w1 ⟨rfl,rfl⟩)
 go_ret;exact⟨rfl,au w _⟩
def Mth.nearI (n:Nd) (x:Int):Bool:=rZ x&&(decide (x=n.par)||hasB n.kids x)
theorem Mth.near_same {n:Nd} (h:dH n=true) (x:Int):nearI n x=dV n x:=by
 obtain⟨h1,_,h3⟩:=nZ h
 have hp:n.par<=29:=by
  exact ahJ
 unfold nearI dV;cases hh:hasB n.kids x
 .simp only[Bool.or_false];by_cases hx:x=n.par
  .by_cases h0:0<=x
   .simp[rZ,hx];omega
   .simp[rZ,hx];omega
  .simp[hx]
 .have h2:=h1 x ((zJ _ _).1 hh);unfold jN at h2;simp only[Bool.and_eq_true] at h2;rw [h2.1.1];simp
theorem Py (n:Nd) (A:bC) (x:Int) (w:World) (hl:n.kids.length<=1048600) (ha:dX w A.k n.kids):
 Calls prog 130 #[fT n A,.int .i64 x] w (fF w (.bool (nearI n x))):=by
 have HK:=Hq (Ci n A x (w.alloc (.cells (dD n A) 30)) hl (GR.At.below ha (au w _)));clear ha;cases h0:rZ x
 .have HN:=Hq (show nearI n x=false by simp[nearI,h0]);have HA:=Hq (λw1=>isNode x false w1 h0);clear h0;exact aho
 .have HA:=Hq (λw1=>isNode x true w1 h0);by_cases h1:x=n.par
  .have HN:=Hq (show nearI n x=true by unfold nearI;rw [h0,decide_eq_true h1];rfl);have h2:(x == n.par)=true:=Abf
   clear h1 h0;exact aho
  .have HN:=Hq (show nearI n x=hasB n.kids x by simp[nearI,h1,h0]);have h2:(x == n.par)=false:=Abf
   clear h1 h0;go_in
   go_wp2_with (first|(go_at_call 128;refine(HA _).mono ?_;rintro e w1 ⟨rfl,rfl⟩)|(go_at_call 169;refine HK.mono ?_;rintro e w2 ⟨rfl,hb2⟩))
   go_ret;exact⟨aD HN.symm,(au w _).trans (hb2.mono Aac)⟩
namespace Mth
def upTo (n:Nat):List Int:=(List.range n).map Int.ofNat
theorem Gz (n:Nat):(upTo n).Pairwise (· < ·):=by
 unfold upTo;rw [List.pairwise_map];exact List.pairwise_lt_range.imp (λ{a b} h=>by show(a:Int) < (b:Int);omega)
theorem Rc (n:Nat) (x:Int):x∈upTo n↔0<=x/\x < n:=by
 unfold upTo;rw [List.mem_map];constructor
 .rintro⟨a,ha,rfl⟩;have:=List.mem_range.1 ha;show 0<=(a:Int)/\(a:Int) < n
  omega
 .intro h;exact⟨x.toNat,List.mem_range.2 Aaa,by show((x.toNat:Nat):Int)=x;omega⟩
theorem abZ {id par:Int} (h:iB (jN id par) iQ l=true):l.length<=30:=by
 obtain⟨h1,h2⟩:=(um (r:=iQ) nY).1 h
 have h3:=SA (upTo 30) l (h2.imp (λ{a b} h=>of_decide_eq_true h)) (Gz 30) (λx hx=>by
  have h4:=h1 x hx
  unfold jN rZ at h4
  simp only[Bool.and_eq_true,decide_eq_true_eq] at h4
  rw [Rc]
  omega)
 simpa [upTo] using h3
def F5 (n:Nd):Bool:=rZ n.id&&(decide (n.par= -1)||(rZ n.par&&decide (n.par≠n.id)))&&iB (jN n.id n.par) iQ n.kids
theorem Ud (n:Nd):F5 n=dH n:=by
 unfold F5 dH;cases hc:iB (jN n.id n.par) iQ n.kids
 .simp
 .rw [decide_eq_true (abZ hc)];cases hi:rZ n.id
  .simp
  .have h0:0<=n.id/\n.id<=29:=of_decide_eq_true hi;by_cases h1:n.par= -1
   .have h2:n.par≠n.id:=Aaa
    rw [decide_eq_true h1,decide_eq_true h2,decide_eq_true (show -1<=n.par/\n.par<=29 by omega)];rfl
   .rw [decide_eq_false h1];unfold rZ;by_cases h2:0<=n.par/\n.par<=29
    .rw [decide_eq_true h2,decide_eq_true (show -1<=n.par/\n.par<=29 by omega)];simp
    .rw [decide_eq_false h2,decide_eq_false (show¬(-1<=n.par/\n.par<=29) by omega)];simp
theorem aer {id par:Int} (h:jN id par x=true): -1 < x:=by
 unfold jN rZ at h;exact aaK
theorem abI (h:Bp low x=true):low - 1 < x:=by
 unfold Bp at h;simp only[decide_eq_true_eq] at h;omega
theorem VJ {n:Nd} {s:lJ} (h:vN n s=true):0 < s.i:=by
 unfold vN at h;exact aaK
theorem VN {n:Nd} {s:Rq} (h:tH n s=true):n.old < s.no:=by
 unfold tH at h;exact aaK
end Mth
theorem TF (n:Nd) (A:bC) (w:World) (hl:n.kids.length<=1048600) (ha:dX w A.k n.kids):
 Calls Tryz.prog 52 #[fT n A] w (fF w (.bool (F5 n))):=by
 have HA:=Hq ha;have HD:Hid (F5 n=(rZ n.id&&(decide (n.par= -1)||(rZ n.par&&decide (n.par≠n.id)))&&iB (jN n.id n.par) iQ n.kids)):=rfl;have xG:=Hq (λk h=>qd (jN n.id n.par) iQ n.kids k h);have kR:=Hq (λk h=>zy (jN n.id n.par) (λx=>x) (-1) (λx=>aer) n.kids k h);have yY:=Hq (λk h=>uJ (λx:Int=>x) (-1) n.kids k h);have UJ:=Hq (λx=>show jN n.id n.par x=(rZ x&&decide (x≠n.id)&&decide (x≠n.par)) from rfl);have lU:=Hq (heap_alloc_new w (.cells (dD n A) 30));generalize F5 n=TT at *;generalize jN n.id n.par=KB at *;open aoR in exact yc
theorem PI (s:Sn) (b:Option Addr) (c:Nat) (w:World) (hl:s.ids.length<=1048600) (ha:dX w b s.ids):
 Calls Tryz.prog 132 #[.agg #[.int .i64 s.f,.int .i64 s.l,.slice b s.ids.length c]] w (fF w (.bool (vO s))):=by
 obtain⟨fr,lo,ids⟩:=s;dsimp only at hl ha ⊢;have HA:=Hq ha;have HD:Hid (vO ⟨fr,lo,ids⟩=(fV lo&&decide (ids.length<=40)&&iB (Bp lo) iQ ids)):=rfl;have xG:=Hq (λk h=>qd (Bp lo) iQ ids k h);have kR:=Hq (λk h=>zy (Bp lo) (λx=>x) (lo - 1) (λx=>abI) ids k h);have yY:=Hq (λk h=>uJ (λx:Int=>x) (lo - 1) ids k h);have HLB:=Hq (λk (h:iB (Bp lo) iQ (ids.take k)=true)=>BL (key:=λx=>x) (y0:=lo - 1) (λx=>abI) h);have UJ:=Hq (λx=>show Bp lo x=decide (lo<=x/\x<=1000000000) from rfl);generalize vO ⟨fr,lo,ids⟩=TT at *;generalize Bp lo=KB at *;clear ha;cases h1:fV lo
 case' false=>
  have HP:Hid (TT=false):=by rw [ah HD,h1];rfl
  have H1:=Hq (λw1=>aU lo false w1 h1)
  clear HD h1
  go_in
  go_wp2_with (go_at_call 54;refine(H1 _).mono ?_;rintro e w1 ⟨rfl,rfl⟩)
  go_ret
  exact⟨aD HP.symm,au w _⟩
 have H1:=Hq (λw1=>aU lo true w1 h1);have hlo:1<=lo/\lo<=1000000000:=of_decide_eq_true h1;obtain⟨hlo1,hlo2⟩:=hlo;by_cases h2:ids.length<=40
 case' neg=>
  have HP:=Hq (show TT=false by rw [ah HD,decide_eq_false h2];simp)
  have hb2:decide ((40:Int) < ids.length)=true:=decide_eq_true Aaa
  clear HD h1
  go_in
  go_wp2_with (go_at_call 54;refine(H1 _).mono ?_;rintro e w1 ⟨rfl,rfl⟩)
  go_ret
  exact⟨aD HP.symm,au w _⟩
 have hb2:decide ((40:Int) < ids.length)=false:=decide_eq_false Aaa;have lD:Hid (TT=iB KB iQ ids):=by rw [ah HD,h1,decide_eq_true h2];rfl
 clear HD h1;go_in
 go_wp2_with (go_at_call 54;refine(H1 _).mono ?_;rintro e w1 ⟨rfl,rfl⟩)
 go_loop [3,22] (λlv i=>∃(k:Nat) (y:Int),k<=ids.length/\i= .int .i64 k/\lv= .int .i64 y/\y=xR (λx=>x) (lo - 1) (ids.take k)/\iB KB iQ (ids.take k)=true) (λ_ i=>ids.length - (intOf i).toNat)
 case atStart=>exact⟨0,lo - 1,Nat.zero_le _,rfl,Aai,rfl,rfl⟩
 case round=>
  obtain⟨k,y,hk,rfl,rfl,hy,hall⟩:=hrel;have mU:=Hq hall;have HY:=Hq hy;have hy0:lo - 1<=y:=by rw [hy];exact HLB k hall
  clear hall hy;by_cases hlt:k < ids.length
  case' neg=>
   have hke:k=ids.length:=Aaa
   subst hke
   have hnlt:decide ((ids.length:Int) < (ids.length:Int))=false:=Aac
   have HF:Hid (TT=true):=by
    exact WH
   go_wp2_with fail
   go_ret
   exact⟨aD HF.symm,au w _⟩
  obtain⟨g,off,rfl,hgw,q0⟩:=dX.one (GR.At.below HA (au w (.cells #[.int .i64 fr,.int .i64 lo,.slice b ids.length c] 90))) k hlt;have HBAD:Hid (iB KB iQ (ids.take (k+1))=false->TT=false):=λh=>lD.trans (xG _ h)
  have gU:Hid (iB KB iQ (ids.take (k+1))=(KB ids[k]&&decide (y < ids[k]))):=by
   exact ahd
  have Ef:=Hq (yY k hlt);have Dy:=Hq (UJ ids[k]);clear kR yY xG UJ HLB;generalize ids[k]=x at *;by_cases h2:y < x
  case' neg=>
   have hb3:decide (x<=y)=true:=decide_eq_true Aaa
   have HV:=Hq (HBAD (by rw [ah gU,ah Dy];rw [decide_eq_false h2];simp))
   clear HBAD gU Dy
   go_wp2_with (fail)
   go_ret
   exact⟨aD HV.symm,au w _⟩
  have hb3:decide (x<=y)=false:=decide_eq_false Aaa;cases h3:ru x
  case' false=>
   have H3:=Hq (λw1=>kV x false w1 h3)
   have h4:¬(0<=x/\x<=1000000000):=of_decide_eq_false h3
   have HV:=Hq (HBAD (by rw [ah gU,ah Dy];rw [decide_eq_false (show¬(lo<=x/\x<=1000000000) by omega)];rfl))
   clear HBAD gU Dy h3 h4
   go_wp2_with (go_at_call 133;refine(H3 _).mono ?_;rintro e w1 ⟨rfl,rfl⟩)
   go_ret
   exact⟨aD HV.symm,au w _⟩
  have H3:=Hq (λw1=>kV x true w1 h3);have h4:0<=x/\x<=1000000000:=of_decide_eq_true h3;have HV:=Hq (show iB KB iQ (ids.take (k+1))=true by rw [ah gU,ah Dy,decide_eq_true (show lo<=x/\x<=1000000000 by omega),decide_eq_true h2];rfl);clear HBAD gU Dy h3 h4;go_wp2_with (go_at_call 133;refine(H3 _).mono ?_;rintro e w1 ⟨rfl,rfl⟩)
  exact ahw
namespace Mth
def dx (id par:Int) (kids fs:List Int):Nd:=⟨id,par,kids,1,[],[],fs.map (λx=>⟨x,1,[]⟩),0,[]⟩
def jv:Nd:=⟨0,0,[],0,[],[],[],0,[]⟩
def D7 (id par:Int) (kids:List Int):Nd×Bool:=if dH (dx id par kids []) then(dx id par kids (Nj (lN (dx id par kids []))),true) else(jv,false)
theorem XR:dH (dx id par kids fs)=dH (dx id par kids []):=rfl
theorem aci:lN (dx id par kids fs)=lN (dx id par kids []):=rfl
theorem ajV (h:dH (dx id par kids [])=true) (hf:fs=Nj (lN (dx id par kids []))):dY (dx id par kids fs)=true:=by
 have hp:dH (dx id par kids fs)=true:=h
 have hm:(dx id par kids fs).seen.map (·.f)=Nj (lN (dx id par kids fs)):=by
  rw [aci,<-hf];simp[dx,Function.comp_def]
 have ha:(dx id par kids fs).seen.all vO=true:=by
  rw [List.all_eq_true];intro s hs;obtain⟨x,_,rfl⟩:=List.mem_map.1 hs;rfl
 unfold dY;rw [hp,uV hp,decide_eq_true hm,ha];rfl
theorem ajW (h:dH (dx id par kids [])=false):dY (dx id par kids fs)=false:=by
 unfold dY;rw [XR,h];rfl
def nC (n:Nd) (k:Nat):List Int:=(upTo k).filter (dV n)
theorem YD (k:Nat):upTo (k+1)=upTo k++[(k:Int)]:=by
 unfold upTo;rw [List.range_succ,List.map_append];rfl
theorem Qg (n:Nd) (k:Nat):nC n (k+1)=if dV n k then nC n k++[(k:Int)] else nC n k:=by
 unfold nC;rw [YD,List.filter_append,List.filter_cons];split<;>simp
theorem Qh {n:Nd} (h:dH n=true):nC n 30=Nj (lN n):=by
 have hk:=nZ h
 have hp:n.par<=29:=by
  exact ahJ
 refine(aaW _ _ (Nk (yF h)) ((Gz 30).sublist List.filter_sublist) ?_ ?_).symm
 .intro x hx;rw [AR] at hx;(try unfold nC)
  rw [List.mem_filter];refine⟨?_,(wB h x).2 hx⟩;rw [Rc];unfold lN at hx;rcases List.mem_append.1 hx with hx|hx
  .have:=hk.1 x hx;unfold jN rZ at this;simp only[Bool.and_eq_true,decide_eq_true_eq] at this;omega
  .split at hx
   .simp at hx
   .have:x=n.par:=Aag
    omega
 .refine SA _ _ ((Gz 30).sublist List.filter_sublist) (Nk (yF h)) ?_;intro x hx;(try unfold nC at hx)
  rw [List.mem_filter] at hx;rw [AR];exact(wB h x).1 hx.2
theorem aeB {id par:Int} {kids fs:List Int} (h:dH (dx id par kids [])=true) (hf:fs=Nj (lN (dx id par kids []))):D7 id par kids=(dx id par kids fs,true):=by
 unfold D7;rw [if_pos h,hf]
theorem ajU {id par:Int} {kids:List Int} (h:dH (dx id par kids [])=false):D7 id par kids=(jv,false):=by
 unfold D7;rw [if_neg Abu]
end Mth
def pz (x:Int):R3:=⟨x,1,.slice none 0 0⟩
abbrev nnc (id par:Int) (kv v:Value):Array Value:=#[.int .i64 id,.int .i64 par,kv,.int .i64 1,.slice none 0 0,.slice none 0 0,v,.int .i64 0,.slice none 0 0]
structure NN (w2 wr:World) (nb:Nat) (id par:Int) (kv v:Value) (fs:List Int):Prop where
 keep:aC [nb] w2 wr
 blk:wr.heap[nb]?=some (.cells (nnc id par kv v) 30 (0,0))
 own:wr.ownsRow w2.heap.size 90 3 v fs.length (GR.flat eP (fs.map pz))
 lt:nb < w2.heap.size
theorem NN.step {id par:Int} {fs:List Int} (h:NN w2 wr nb id par kv v fs) (hb:aY wr w'):NN w2 w' nb id par kv v fs:=
 ⟨h.keep.trans (aC.of_below hb),ay h.blk hb,GR.own_below h.own hb,h.lt⟩
theorem NN.app {w6:World} {id par:Int} {v':Value} {fs:List Int} {o:Obj} (h:NN w2 wr nb id par kv v fs) (x:Int) (hown:w6.ownsRow w2.heap.size 90 3 v' (fs.length+1) (GR.flat eP (fs.map pz)++eP (pz x))) (hg:(wr.alloc o).grownBy w6 v.ownBlock):
 NN w2 (w6.setCell ⟨nb,6,none⟩ v') nb id par kv v' (fs++[x]):=by
 have hvb:∀k,v.ownBlock=some k->w2.heap.size<=k:=λk hk=>(h.own.lt k hk).1
 have hlt:=h.lt;have hsz:=h.keep.size
 have hblk6:w6.heap[nb]?=some (.cells (nnc id par kv v) 30 (0,0)):=by
  rw [hg.block nb Aaf (λe=>by have:=hvb nb e.symm;omega),Below.heap_alloc _ _ _ Aaa];exact h.blk
 have hne:∀k,v'.ownBlock=some k->k≠nb:=λk hk=>by have:=(hown.lt k hk).1;omega
 refine⟨?_,?_,?_,hlt⟩
 .refine⟨hg.os.trans h.keep.os,hg.tape.trans h.keep.tape,hg.output.trans h.keep.output,?_,λk hk hkn=>?_⟩
  .have:=hg.size;simp[World.setCell] at this ⊢;omega
  .have hkn':k≠nb:=by simpa using hkn
   rw [Below.heap_setCell _ _ _ _ hkn',hg.block k Aaf (λe=>by have:=hvb k e.symm;omega),Below.heap_alloc _ _ _ Aaa];exact h.keep.block k hk hkn
 .exact aT hblk6 6 v'
 .have e1:(fs++[x]).length=fs.length+1:=Aac
  have e2:GR.flat eP ((fs++[x]).map pz)=GR.flat eP (fs.map pz)++eP (pz x):=by rw [List.map_append,GR.flat_append];simp[GR.flat]
  rw [e1,e2];refine hown.kept (row:=some nb) ⟨rfl,rfl,rfl,Aas,λk _ hk=>Below.heap_setCell _ _ _ _ (λe=>hk Aao)⟩ ?_;cases hv:v'.ownBlock with
  |none=>exact .inl rfl
  |some k=>exact .inr (λe=>hne k hv (by injection e))
theorem aj1 (x:Int):∀u∈eP (pz x),u.oneCell'=true:=by
 intro u hu;simp only[eP,pz,List.mem_cons,List.not_mem_nil,or_false] at hu;rcases hu with rfl|rfl|rfl<;>rfl
theorem jw.new {B:Nat} {fs:List Int} (h:w.ownsRow B 90 3 v fs.length (GR.flat eP (fs.map pz))):∃a c g,v= .slice a fs.length c/\jw w a g (λ_=>0) (fs.map (λx=>⟨x,1,[]⟩))/\(∀x∈fp g fs,B<=x/\x < w.heap.size):=by
 have h':w.ownsRow B 90 3 v (fs.map pz).length (GR.flat eP (fs.map pz)):=by rw [List.length_map];exact h
 obtain⟨a,c,g,e,hW,hr,_⟩:=GR.W.of_own eF h';refine⟨a,c,g,by rw [e,List.length_map],⟨fs.map pz,hW,Aac,λi hi=>?_⟩,λx hx=>hr x ?_⟩
 .refine⟨none,0,?_,?_⟩
  .have hi':i < fs.length:=Aaq
   simp[hi',pz]
  .simp only[List.getElem_map];exact GR.W.nil
 .have:=gV hx;rw [this.1];exact dK (by simpa using this.2)
theorem Vs (I:Nat->Nat) (fs:List Int):vR I (fs.map (λx=>(⟨x,1,[]⟩:Sn)))=[]:=by
 apply List.eq_nil_iff_forall_not_mem.2
 intro x hx;obtain⟨i,hi,_,hp⟩:=uO hx;simp at hp
open Go.RowKit Go.Maps
abbrev Fz (x:Int):Lit:= .int .i64 x
theorem ael {a b:Int} (h:a≠b):Fz a≠Fz b:=λe=>h (by injection e)
theorem rV:Keyed Tryz.prog 3:=int_keyed Tryz.underlying3
theorem P6 (x:Int) (h0:0<=x) (h1:x<=1000000000):keyOf Tryz.prog 3 (.int .i64 x)=some (Fz x):=keyOf_int_mk Tryz.underlying3 (by simp only[Lit.wf,Bool.and_eq_true,decide_eq_true_eq];constructor<;>(first|omega|(unfold IntKind.min;simp;omega)|(unfold IntKind.max;simp;omega)|(simp[IntKind.min,IntKind.max,IntKind.bits,IntKind.signed];omega)))
theorem ac9 (w:World):(zeroValue 262).run Tryz.prog w= .ok (.agg #[]) w:=Aab
def gB (w:World) (mb n:Nat) (l:List Int):Prop:=∃D:DataW Unit,w.ownsMap Tryz.prog 3 unitElem mb n D/\∀x,Maps.has D (Fz x)=decide (x∈l)
theorem gB.made (w:World):gB (w.alloc (.map #[] 0)) w.heap.size 0 []:=⟨_,World.ownsMap_made w _ _ _,λx=>by simp[Maps.has]⟩
theorem gB.lt (h:gB w mb n l):mb < w.heap.size:=h.choose_spec.1.lt
theorem gB.kept (h:gB w mb n l) (hb:w'.heap[mb]?=w.heap[mb]?):gB w' mb n l:=by
 exact ahW
theorem gB.mono {n':Nat} (h:gB w mb n l) (hn:n<=n'):gB w mb n' l:=by
 obtain⟨D,h1,h2⟩:=h;exact⟨D,h1.mono hn,h2⟩
theorem gB.same {l':List Int} (h:gB w mb n l) (he:∀x,x∈l↔x∈l'):gB w mb n l':=by
 obtain⟨D,h1,h2⟩:=h;exact⟨D,h1,λx=>by rw [h2 x,decide_eq_decide];exact he x⟩
theorem gB.look (h:gB w mb n l) (x:Int) (h0:0<=x) (h1:x<=1000000000):
 (Instr.lookup 259 (.map (some mb)) (.int .i64 x) true).run Tryz.prog w= .ok (.tuple #[.agg #[],.bool (decide (x∈l))]) w:=by
 obtain⟨D,hown,ha⟩:=h;obtain⟨v,ps,hrun,hv⟩:=hown.look_ok rV Tryz.underlying259 (ac9 w) unitElem_mk (P6 x h0 h1);rw [hrun,ha x,(unitElem_inv hv).1]
theorem gB.store (h:gB w mb n l) (x:Int) (h0:0<=x) (h1:x<=1000000000) (hn:n < maxLen):
 ∃w',(Instr.mapUpdate 259 (.map (some mb)) (.int .i64 x) (.agg #[])).run Tryz.prog w= .ok () w'/\gB w' mb (n+1) (x::l)/\Keeps mb w w':=by
 obtain⟨D,hown,ha⟩:=h;obtain⟨w',hrun,g1,g2⟩:=hown.store rV Tryz.underlying259 hn (P6 x h0 h1) unitElem_mk;refine⟨w',hrun,⟨_,g1,λy=>?_⟩,pR g2⟩;by_cases e:y=x
 .subst e;rw [has_put_same hown.isMap (show WideAt.IsKeyLit (Fz y) from trivial)];simp
 .rw [has_put_other (ael e),ha y];simp[e]
theorem gB.keys (hown:w.ownsMap Tryz.prog 3 unitElem mb n D) (ha:∀x,Maps.has D (Fz x)=decide (x∈l)) (hl:l.Nodup):l.Perm (intKeys D):=by
 obtain⟨es,hD,hpw,_⟩:=hown.entries rV;obtain⟨es',hD',hko⟩:=hown.keysOf;obtain rfl:es=es':=by rw [hD] at hD';simpa using hD'
 subst hD;exact perm_intKeys hpw (λp hp=>by obtain⟨v,hv⟩:=hko p hp;obtain⟨x,_,hx,_⟩:=Maps.keyOf_i64 Tryz.underlying3 hv;exact⟨x,hx⟩) hl (λx=>by rw [ha x];simp)
theorem Kl (hown:w.ownsMap Tryz.prog 3 unitElem mb n D):Maps.size D=(intKeys D).length:=by
 obtain⟨es,hD,_⟩:=hown.entries rV;subst hD;simp[Maps.size,intKeys]
theorem gB.len (h:gB w mb n l) (hl:l.Nodup) (ty:TypeId):(Builtin.len_ #[259] ty #[.map (some mb)]).run Tryz.prog w= .ok (.int .i64 l.length) w:=by
 obtain⟨D,hown,ha⟩:=h;rw [hown.len Tryz.underlying259 ty,Kl hown,(gB.keys hown ha hl).length_eq]
theorem ajT (B sb mb:Nat) (low x:Int) (w:World) (h1:w.heap[B]?=some (.cells #[.pointer (some ⟨sb,0,none⟩)] 227 (0,0))) (h2:w.heap[sb]?=some (.cells #[.int .i64 low,.map (some mb)] 261 (0,0))):
 Calls Tryz.prog 231 #[.int .i64 x,.agg #[],.pointer (some ⟨B,0,none⟩)] w (fF w (.bool (decide (x < low)))):=by
 have hB:=aA h1;have hS:=aA h2;have c0:w.cell? ⟨B,0,none⟩=some (.pointer (some ⟨sb,0,none⟩)):=cell_of_row w B 0 _ _ (0,0) h1;have c1:w.cell? ⟨sb,0,none⟩=some (.int .i64 low):=cell_of_row w sb 0 _ _ (0,0) h2;clear h1 h2;go_in
 exact adR
def zT (low:Int):Lit->DataW Unit->Bool
 | .int _ x,_=>decide (x < low)
 |_,_=>false
theorem Xi {es:List (Lit×DataW Unit)} (low:Int) (hown:w.ownsMap Tryz.prog 3 unitElem mb n (.map es)) (ha:∀x,Maps.has (.map es) (Fz x)=decide (x∈l)) (x:Int):
 Maps.has (Lib.deleteFuncD (zT low) (.map es)) (Fz x)=decide (x∈l.filter (λx=>decide (low<=x))):=by
 obtain⟨es',hD',hko⟩:=hown.keysOf;obtain rfl:es=es':=by simpa using hD'
 have hx:=ha x;rw [Bool.eq_iff_iff,decide_eq_true_iff,has_eq,List.any_eq_true] at hx;show Maps.has (.map (es.filter λp=> !zT low p.1 p.2)) (Fz x)=_
 rw [Bool.eq_iff_iff,decide_eq_true_iff,has_eq,List.any_eq_true,List.mem_filter,<-hx,decide_eq_true_iff];constructor
 .rintro⟨p,hp,hs⟩;obtain⟨hp1,hp2⟩:=List.mem_filter.1 hp;refine⟨⟨p,hp1,hs⟩,?_⟩;obtain⟨v,hv⟩:=hko p hp1;obtain⟨y,_,hy,_⟩:=Maps.keyOf_i64 Tryz.underlying3 hv;rw [hy] at hs hp2;have e:y=x:=by simpa [Lit.sameKey] using hs
  subst e;simpa [zT] using hp2
 .rintro⟨⟨p,hp1,hs⟩,hle⟩;obtain⟨v,hv⟩:=hko p hp1;obtain⟨y,_,hy,_⟩:=Maps.keyOf_i64 Tryz.underlying3 hv;have hs':=hs;rw [hy] at hs';have e:y=x:=by simpa [Lit.sameKey] using hs'
  subst e;exact⟨p,List.mem_filter.2 ⟨hp1,by rw [hy];simpa [zT] using hle⟩,hs⟩
theorem FQ {b:Nat} (g:w.grownBy w' (some b)):_root_.Go.Proofs.YtacgbldlonoaaaaGreatDoor.Keeps b w w':=⟨g.os,g.tape,g.output,g.size,λk hk hne=>g.block k hk (λe=>hne (Option.some.inj e))⟩
theorem iq (h:aY w w') (row:Option Nat):w.grownBy w' row:=⟨h.os,h.tape,h.output,h.size,λk hk _=>h.block k hk⟩
theorem ajj (B sb mb n:Nat) (low:Int) (l:List Int) (w:World) (h1:w.heap[B]?=some (.cells #[.pointer (some ⟨sb,0,none⟩)] 227 (0,0))) (h2:w.heap[sb]?=some (.cells #[.int .i64 low,.map (some mb)] 261 (0,0))) (hs:gB w mb n l):
 Calls Tryz.prog 230 #[.map (some mb),.func (.func 231) #[] #[.pointer (some ⟨B,0,none⟩)]] w λe w'=>e= .returned (.tuple #[])/\gB w' mb n (l.filter (λx=>decide (low<=x)))/\Keeps mb w w':=by
 obtain⟨D,hown,ha⟩:=hs;obtain⟨es0,rfl,hap,hkeys⟩:=hown.entries rV;have hmap:∃es clock,w.heap[mb]?=some (.map es clock):=by obtain⟨es,clock,hb,_⟩:=hown;exact⟨es,clock,hb⟩
 obtain⟨es1,clock1,hmb⟩:=hmap;have hBm:B≠mb:=λe=>by rw [e,hmb] at h1;cases h1
 have hSm:sb≠mb:=λe=>by rw [e,hmb] at h2;cases h2
 have HA:=Hq (Xi (n:=n) low hown ha);have HD:=Hq (fun(W:World) (x:Int) (hg:w.grownBy W (some mb))=>ajT B sb mb low x W ((hg.block B (aA h1) (by simpa using hBm)).trans h1) ((hg.block sb (aA h2) (by simpa using hSm)).trans h2));clear h1 h2 hmb hBm hSm ha;go_in
 go_wp2_with (first
  |(at_range;refine wpList_range_own _ rfl _ 259 rfl 3 262 rV Tryz.underlying259 unitElem mb n _ rfl hown ?_;intro w0 hrg0 hg0 hs0)
  |go_in)
 go_frame
 go_loopw [8] (λ_ wr=>∃(left:Lit->Bool) (cnt:Nat),wr.ranges Tryz.prog 3 unitElem mb w.heap.size n (Fk (zT low) es0 left) left cnt/\w.grownBy wr (some mb))
  (λ_ wr=>wr.rangeLeft mb w.heap.size)
 case atStart=>exact⟨_,_,by rw [Fk_start hkeys];exact hrg0,hg0.but _⟩
 case round=>
  obtain⟨left,cnt,hrg,hgw⟩:=hrel
  go_wp2_with (first
   |(at_next;refine wpList_next_ranges _ rfl _ rfl 3 rV unitElem (Value.int .i64) (λ_:Unit=>Value.agg #[]) (λkey kl hk=>by obtain⟨x,hx,_⟩:=Maps.keyOf_i64 Tryz.underlying3 hk;exact⟨x,hx⟩) (λv y hv=>⟨(),(unitElem_inv hv).1⟩) mb w.heap.size n _ _ _ rfl hrg ?_ ?_)
   |go_in)
  ·
   intro _ hl0
   go_wp2_with fail
   go_end0
   refine⟨rfl,⟨_,?_,HA⟩,FQ hgw⟩
   rw [<-Fk_end hl0]
   exact hrg.owns
  ·
   intro x kl yd yp w1 cnt1 hkey hlx hv hat hrg1 hlt hg1 hs1 hen
   obtain⟨x',ex,rfl,_⟩:=Maps.keyOf_i64 Tryz.underlying3 hkey
   cases ex
   have hgw1:=hgw.andThen hg1 (λj hj=>by cases hj;exact Or.inl (Nat.le_refl _))
   have hc:=Hq (HD (w1.alloc (.cells #[] 262)) x (hgw1.andThen (World.grownBy_alloc w1 _ none) (λj hj=>by cases hj)))
   have ayk:=hrg1.alloc (.cells #[] 262)
   have hgA:=hgw1.andThen (World.grownBy_alloc w1 (.cells #[] 262) none) (λj hj=>by cases hj)
   by_cases hx:x < low
   .have hp:zT low (Fz x) yd=true:=by simpa [zT] using hx
    have hq:decide (x < low)=true:=Aag
    go_wp2_with (first
     |(go_at_call 231;refine hc.mono ?_;rintro e w2 ⟨rfl,hb2⟩;have hrg2:=ayk.kept (iq hb2 none) Aac Aac)
     |(at_delete;refine wpList_delete_ranges _ rfl _ _ 259 3 rfl 262 rV Tryz.underlying259 unitElem mb w.heap.size n _ _ _ rfl hrg2 _ _ rfl hkey ?_;intro w3 cnt3 hrg3 hle hturn;go_frame)
     |go_in)
    rw [strike_twice] at hrg3;go_roundw
    case rel=>exact⟨_,cnt3,by rw [<-Fk_struck hap (rV.key hkey) hlx hp hat];exact hrg3,(hgA.andThen (iq hb2 none) (λj hj=>by cases hj)).andThen hturn.grown (λj hj=>by cases hj;exact Or.inr rfl)⟩
    case measure=>rw [hrg3.left_eq,hrg.left_eq];omega
   .have hp:zT low (Fz x) yd=false:=by simpa [zT] using hx
    have hq:decide (x < low)=false:=Aag
    go_wp2_with (first
     |(go_at_call 231;refine hc.mono ?_;rintro e w2 ⟨rfl,hb2⟩;have hrg2:=ayk.kept (iq hb2 none) Aac Aac)
     |go_in)
    go_roundw
    case rel=>exact⟨_,cnt1,by rw [<-Fk_stays hap (rV.key hkey) hlx hp hat];exact hrg2,hgA.andThen (iq hb2 none) (λj hj=>by cases hj)⟩
    case measure=>rw [hrg2.left_eq,hrg.left_eq];exact hlt
abbrev lG (w:World) (sb mb:Nat) (low:Int):Prop:=w.heap[sb]?=some (.cells #[.int .i64 low,.map (some mb)] 261 (0,0))
theorem aC.of_keeps (h:Keeps g w w'):aC [g] w w':=⟨h.os,h.tape,h.output,h.size,λk hk hg=>h.block k hk (by simpa using hg)⟩
theorem gB.ne {sb:Nat} (h:gB w mb n l) (hs:lG w sb mb low):sb≠mb:=λe=>by
 obtain⟨D,⟨es,clock,hb,_⟩,_⟩:=h;unfold lG at hs;rw [e,hb] at hs;cases hs
theorem gB.far {cs:Array Value} {t:TypeId} {q:Nat×Nat} (h:gB w mb n l) (hs:w.heap[g]?=some (.cells cs t q)):g≠mb:=λe=>by
 obtain⟨D,⟨es,clock,hb,_⟩,_⟩:=h;rw [e,hb] at hs;cases hs
theorem ajr (sb mb n:Nat) (low x:Int) (l:List Int) (w:World) (h0:0<=x) (h1:x<=1000000000) (hb:lG w sb mb low) (hs:gB w mb n l):
 Calls Tryz.prog 197 #[.pointer (some ⟨sb,0,none⟩),.int .i64 x] w (fF w (.bool (decide (x < low)||decide (x∈l)))):=by
 have hsl:=aA hb;obtain⟨⟨m0,m1⟩,_⟩:=nM hb;have hrun:=hs.look x h0 h1;clear hb hs;cases hm:decide (x∈l)
 .rw [hm] at hrun;go_in
  exact adR
 .rw [hm] at hrun;go_in
  exact adR
theorem aey (sb mb n:Nat) (ayt low L:Int) (l:List Int) (w:World) (hL:max ayt low=L) (hb:lG w sb mb ayt) (hs:gB w mb n l):
 Calls Tryz.prog 196 #[.pointer (some ⟨sb,0,none⟩),.int .i64 low] w λe w'=>e= .returned (.tuple #[])/\lG w' sb mb L/\gB w' mb n (l.filter (λx=>decide (L<=x)))/\aC [sb,mb] w w':=by
 have hsl:=aA hb;have hml:=hs.lt;have hne:=hs.ne hb;have HB:=Hq hb;have HS:=Hq hs;obtain⟨⟨m0,m1⟩,f0,f1⟩:=nM hb;have HL:=Hq hL;clear hb hs hL;go_in
 go_upto_region 2 with fail;go_region
 rw [ah HL];go_upto_region 2 with fail;refine wp_at (λW hW=>?_);have hsz:(w.setCell ⟨sb,0,none⟩ (.int .i64 L)).heap.size=w.heap.size:=Aas
 have e1:W.heap[w.heap.size]?=some (.cells #[.pointer (some ⟨sb,0,none⟩)] 227 (0,0)):=by
  rw [hW,<-hsz];exact heap_alloc_new _ _
 have e2:lG W sb mb L:=by
  have h1:(w.setCell ⟨sb,0,none⟩ (.int .i64 L)).heap[sb]?=some (.cells #[.int .i64 L,.map (some mb)] 261 (0,0)):=aT HB 0 (.int .i64 L);rw [hW];exact(Below.heap_alloc _ _ _ (by rw [hsz];exact hsl)).trans h1
 have e3:gB W mb n l:=HS.kept (by
  rw [hW]
  exact(Below.heap_alloc _ _ _ (by rw [hsz];exact hml)).trans (Below.heap_setCell _ _ _ _ hne.symm))
 have e4:aC [sb,mb] w W:=by
  rw [hW];refine⟨rfl,rfl,rfl,Aas,λk hk hkn=>?_⟩;have h1:k≠sb:=λe=>hkn (by simp[e])
  exact(Below.heap_alloc _ _ _ (by rw [hsz];exact hk)).trans (Below.heap_setCell _ _ _ _ h1)
 have m0:W.cell? ⟨w.heap.size,0,none⟩=some (.pointer (some ⟨sb,0,none⟩)):=cell_of_row W _ 0 _ _ (0,0) e1;obtain⟨⟨m1,m2⟩,_⟩:=nM e2;have hwl:=aA e1;have hsl2:=aA e2;have HD:=Hq (ajj w.heap.size sb mb n L l W e1 e2 e3);have E2:=Hq e2;have E4:=Hq e4;clear hW e1 e2 e3 e4 HB HS;go_wp2_with fail;refine HD.mono ?_;rintro e w' ⟨rfl,g1,g2⟩;have G1:=Hq g1;have G2:=Hq g2;clear g1 g2 HD m0 m1 m2;go_wp2_with fail;refine bodyPost_end (v:= .tuple #[]) (by simp[results,Tryz.results196,go_sem]) rfl ⟨rfl,?_,G1,E4.trans ((aC.of_keeps G2).mono Aac)⟩;unfold lG;rw [(ah G2).block sb hsl2 hne];exact E2
theorem setOf (f low:Int) (a:Option Addr) (cap:Nat) (ids:List Int) (w:World) (hl:ids.length<=40) (hb:∀x∈ids,0<=x/\x<=1000000000) (ha:dX w a ids):
 Calls Tryz.prog 195 #[.agg #[.int .i64 f,.int .i64 low,.slice a ids.length cap]] w λe w'=>∃sb mb,e= .returned (.pointer (some ⟨sb,0,none⟩))/\w.heap.size<=sb/\w.heap.size<=mb/\lG w' sb mb low/\gB w' mb ids.length ids/\aY w w':=by
 have hmm:= @run_makeMap Tryz.prog;have HA:=Hq ha;have HBD:=Hq hb;clear ha hb;go_in
 go_wp2_with fail;go_loopw [14] (λi wr=>∃k:Nat,k<=ids.length/\i= .int .i64 k/\lG wr (w.heap.size+1+1) (w.heap.size+1) low/\gB wr (w.heap.size+1) k (ids.take k)/\aY w wr) (λi _=>ids.length - (intOf i).toNat)
 case atStart=>
  have hz:∀(u:World) (o:Obj),(u.alloc o).heap.size=u.heap.size+1:=λu o=>by simp
  have hM:=gB.made (w.alloc (.cells #[.int .i64 f,.int .i64 low,.slice a ids.length cap] 90));have hS:=heap_alloc_new ((w.alloc (.cells #[.int .i64 f,.int .i64 low,.slice a ids.length cap] 90)).alloc (.map #[] 0)) (.cells #[.int .i64 low,.map (some (w.heap.size+1))] 261);rw [hz] at hM;rw [hz,hz] at hS;refine⟨0,Nat.zero_le _,rfl,hS,?_,?_⟩
  .refine hM.kept ?_;exact Below.heap_alloc _ _ _ (by rw [hz,hz];omega)
  .exact((au w _).alloc (by rw [hz];omega) _).alloc (by rw [hz,hz];omega) _
 case round=>
  obtain⟨k,hk,rfl,hS,hI,hbw⟩:=hrel;have HS:=Hq hS;have HI:=Hq hI;have iA:=Hq hbw;obtain⟨⟨m0,m1⟩,_⟩:=nM hS;have hsl:=aA hS;clear hS hI hbw hmm;by_cases hlt:k < ids.length
  .obtain⟨g,off,rfl,hgw,q0⟩:=dX.one (GR.At.below HA iA) k hlt;have HB:=Hq (HBD ids[k] (List.getElem_mem hlt));have HT:=Hq (show∀x,x∈ids[k]::ids.take k↔x∈ids.take (k+1) from λx=>by rw [List.take_succ_eq_append_getElem hlt,List.mem_cons,List.mem_append,List.mem_singleton,or_comm]);generalize ids[k]=ik at *;obtain⟨w2,hrun,hI2,hK2⟩:=HI.store ik HB.1 HB.2 Aah;have HI2:=Hq hI2;have qY:=Hq hK2;clear hI2 hK2;go_wp2_with fail;go_roundw
   case rel=>
    refine⟨k+1,Aaa,Aai,?_,HI2.same HT,?_⟩
    .unfold lG;rw [(ah qY).block _ hsl Aaa];exact HS
    .exact iA.trans ⟨qY.os,qY.tape,qY.output,qY.size,λj hj=>qY.block j (by have:=iA.size;omega) Aaa⟩
   case measure=>simp[intOf];omega
  .have hke:k=ids.length:=Aaa
   subst hke;have hnlt:decide ((ids.length:Int) < (ids.length:Int))=false:=Aac
   go_wp2_with fail;go_ret;refine⟨_,_,rfl,Aaa,Aaa,HS,?_,iA⟩;have h:=ah HI;rwa [List.take_length] at h
end Go.Proofs.YtacgbldlonoaaaaGreatDoor
