/- Parts. -/
import Derived.Test.YtacgbldlonoaaaaGreatDoorRw19
import Derived.Test.YtacgbldlonoaaaaGreatDoorRw14
namespace Go.Proofs.YtacgbldlonoaaaaGreatDoor
open Go.Proofs.Tryz
set_option maxHeartbeats 4000000
set_option maxRecDepth 100000
open Go.RowKit
open Mth
variable {l:List Sn} {k:Nat} {F kids fs:List Int} {id par:Int}
theorem XC (n:Nd) (A:bC) (w:World) (hz:eY n 1048600) (hp:dH n=true) (ha:bQ w A n):
 Calls prog 55 #[fT n A] w (fF w (.bool (sZ n))):=by
 have HA:=Hq ha;have HD:Hid (sZ n=(decide (n.out.length<=40)&&iB (vN n) (λs t=>iQ s.i t.i) n.out)):=rfl;have xG:=Hq (λk h=>qd (vN n) (λs t=>iQ s.i t.i) n.out k h);have kR:=Hq (λk h=>zy (vN n) (λs=>s.i) 0 (λx=>VJ) n.out k h);have yY:=Hq (λk h=>uJ (λs:lJ=>s.i) 0 n.out k h);have HLB:=Hq (λk (h:iB (vN n) (λs t=>iQ s.i t.i) (n.out.take k)=true)=>BL (key:=λs=>s.i) (y0:=0) (λx=>VJ) h);have UJ:=Hq (λs=>show vN n s=(decide (1<=s.i/\s.i<=n.next - 1)&&dV n s.t&&keyOk s.k.data.toList&&fV s.n) from rfl)
 have Nu:Hid (∀x w1,aY w w1->Calls prog 130 #[fT n A,.int .i64 x] w1 (fF w1 (.bool (dV n x)))):=λx w1 hb=>by
  have h:=Py n A x w1 hz.k (ha.below hb).k
  rw [near_same hp] at h
  exact h
 have hlo:=hz.o;have lU:=Hq (heap_alloc_new w (.cells (dD n A) 30));generalize sZ n=TT at *;generalize vN n=KB at *;generalize dV n=NN at *;clear ha hz hp;open aoT in exact yc
theorem TG (n:Nd) (A:bC) (w:World) (hz:eY n 1048600) (ha:bQ w A n):
 Calls prog 57 #[fT n A] w (fF w (.bool (iy n))):=by
 have HA:=Hq ha;have HD:Hid (iy n=(ru n.old&&decide (n.reqs.length<=30)&&iB (tH n) (λs t=>iQ s.no t.no) n.reqs)):=rfl;have xG:=Hq (λk h=>qd (tH n) (λs t=>iQ s.no t.no) n.reqs k h);have kR:=Hq (λk h=>zy (tH n) (λs=>s.no) n.old (λx=>VN) n.reqs k h);have yY:=Hq (λk h=>uJ (λs:Rq=>s.no) n.old n.reqs k h);have HLB:=Hq (λk (h:iB (tH n) (λs t=>iQ s.no t.no) (n.reqs.take k)=true)=>BL (key:=λs=>s.no) (y0:=n.old) (λx=>VN) h);have UJ:=Hq (λs=>show tH n s=(decide (n.old+1<=s.no/\s.no<=1000000000)&&keyOk s.k.data.toList&&fV s.n&&decide (0<=s.s/\s.s<=2)) from rfl);have hlo:=hz.r;have lU:=Hq (heap_alloc_new w (.cells (dD n A) 30));generalize iy n=TT at *;generalize tH n=KB at *;clear ha hz;open aoS in exact yc
theorem O9 (l:List Int):GR.flat aS l=l.map (Value.int .i64):=by
 induction l with
 |nil=>rfl
 |cons x l ih=>rw [GR.flat_cons,ih];rfl
theorem Fe:∀(y:Int),∀u∈aS y,u.oneCell'=true:=by
 intro y u hu;simp only[aS,List.mem_cons,List.not_mem_nil,or_false] at hu;subst hu;rfl
theorem BM (a:Option Addr) (cap:Nat) (l:List Int) (w:World) (hl:l.length<=1048600) (ha:dX w a l):
 Calls prog 45 #[.slice a l.length cap] w λe w'=>∃v,e= .returned v/\w'.ownsRow w.heap.size 3 1 v l.length (GR.flat aS l)/\aY w w':=by
 obtain⟨i0,hi,hz0,hz1,hz2⟩:=info_parts uG;have q22:∀(w:World) (a:Option Addr) (n c n' c':Nat),(binOp .eql 24 (.slice a n c) (.slice none n' c')).run prog w= .ok (.bool a.isNone) w:=λw a n c n' c'=>Lib.run_eql_slice_nil w _ _ a n c n' c' underlying24
 have hlit:(w.alloc (.cells #[] 3)).ownsRow w.heap.size 3 1 (.slice (some ⟨w.heap.size,0,none⟩) 0 0) 0 []:=World.ownsRow_lit (base:=w.heap.size) (e:=3) (size:=1) w #[] 0 (Nat.le_refl _) Aae rfl;cases a with
 |none=>
  have hl0:l=[]:=GR.none_nil ha
  subst hl0
  clear ha hlit
  go_in
  go_wp2_with fail
  go_ret
  exact⟨_,rfl,World.ownsRow_nil _ _ _ _,Below.refl _ _⟩
 |some x=>
  have HN:=Hq (GR.At.news aR Aaa (GR.At.below ha (au w (.cells #[] 3))))
  clear ha
  go_in
  go_wp2_with (at_builtin;refine wpList_append_own _ rfl _ _ 24 rfl w.heap.size 3 i0 (.int .i64 0) 1 8 underlying24 hi hz0 hz1 hz2 rfl Aae _ 0 [] rfl hlit x l.length cap (GR.flat aS l) rfl ?c0 ?c1 ?c2 ?c3 ?c4 ?c5 ?_)
  case c0=>exact GR.flat_length aS 1 aR l
  case c1=>exact HN
  case c2=>exact GR.flat_oneCell Fe l
  case c3=>unfold maxLen;omega
  case c4=>omega
  case c5=>simp
  intro v' w1 hown' hgrow _
  have HO:=Hq (show w1.ownsRow w.heap.size 3 1 v' l.length (GR.flat aS l) by simpa using hown')
  have hb:aY w w1:=(au w _).grown hgrow Aac (λk hk=>Abp)
  clear hown' hgrow hlit
  go_wp2
  go_ret
  exact⟨_,rfl,HO,hb⟩
theorem aeM (B:Nat) (v:Value) (l:List Int) (w:World) (hl:l.length<=1048602) (hB:B<=w.heap.size) (h:w.ownsRow B 3 1 v l.length (GR.flat aS l)):
 Calls prog 123 #[v] w λe w'=>e= .returned (.tuple #[])/\w'.ownsRow B 3 1 v l.length (GR.flat aS (Nj l))/\Below B w w':=by
 rw [O9] at h ⊢;rcases h.2 with⟨rfl,hn⟩|⟨g,cap,cur,rfl,hg,hblk,h1,h2,h3,h4⟩
 .have hl0:l=[]:=List.eq_nil_of_length_eq_zero hn;subst hl0;refine(AnyM.slices_Sort_int_none Tryz.sortL none 0 w).mono ?_;rintro e w' ⟨rfl,rfl⟩;refine⟨rfl,?_,Below.refl _ _⟩;simpa [Nj] using World.ownsRow_nil _ _ _ _
 .rw [Nat.mul_one] at h4;have hH:=holds_of_blockI hblk h4;refine(AnyM.slices_Sort_int Tryz.sortL g 0 cap l w hH (aA hblk) Aaa).mono ?_;rintro e w' ⟨rfl,n,os,rfl⟩;have hs:(Nj l).length=l.length:=ow l;have h5:=ownsRow_sortedI (n:=n) (os:=os) (ts:=Nj l) hs hg hblk h1 h2 h3;exact⟨rfl,h5,(Below.refl B w).grown (grownBy_sortedI _) hB (λk hk=>by cases hk;exact hg)⟩
theorem FD (n:Nd) (A:bC) (w:World) (hl:n.kids.length<=1048600) (ha:dX w A.k n.kids):
 Calls prog 46 #[fT n A] w λe w'=>∃v,e= .returned v/\w'.ownsRow w.heap.size 3 1 v (lN n).length (GR.flat aS (Nj (lN n)))/\aY w w':=by
 obtain⟨i0,hi,hz0,hz1,hz2⟩:=info_parts uG;have HC:=Hq (BM A.k A.ck n.kids (w.alloc (.cells (dD n A) 30)) hl (GR.At.below ha (au w _)));have lU:=Hq (heap_alloc_new w (.cells (dD n A) 30));have Ro:Hid ((n.par= -1->lN n=n.kids)/\(¬n.par= -1->lN n=n.kids++[n.par])):=⟨λh=>by unfold lN;rw [if_pos h,List.append_nil],λh=>by unfold lN;rw [if_neg h]⟩;have hln:(lN n).length<=1048602:=by unfold lN;split<;>simp<;>omega
 generalize lN n=NB at *;open aoU in exact yc
namespace Mth
theorem Yo (hk:k < l.length) (hF:F.length=l.length) (h1:(l.take k).map (·.f)=F.take k) (h2:(l.take k).all vO=true) (h3:(l[k]).f=F[k]' Aaa) (h4:vO l[k]=true):
 (l.take (k+1)).map (·.f)=F.take (k+1)/\(l.take (k+1)).all vO=true:=by
 rw [List.take_succ_eq_append_getElem hk,List.take_succ_eq_append_getElem Aaa,List.map_append,h1,List.all_append,h2];simp[h3,h4]
theorem Ym (hk:k < l.length) (hF:F.length=l.length) (h3:¬(l[k]).f=F[k]' Aaa):¬l.map (·.f)=F:=by
 intro h;apply h3
 subst h;simp
theorem Yn (hk:k < l.length) (h4:vO l[k]=false):l.all vO=false:=by
 rw [List.all_eq_false];exact⟨l[k],List.getElem_mem hk,by rw [h4];simp⟩
end Mth
theorem aik (s:Sn) (b:Option Addr) (c:Nat) (r:Bool) (wc:World) (hl:s.ids.length<=1048600) (ha:dX wc b s.ids) (hr:vO s=r):∀d os,Calls Tryz.prog 132 #[.agg #[.int .i64 s.f,.int .i64 s.l,.slice b s.ids.length c]] (Sort.grow (redrawn wc d) os) λe w''=>e= .returned (.bool r)/\∃p:Regrown,w''=Sort.grow (redrawn wc p.d) p.os:=λd os=>by
 rw [<-hr];exact Calls.regrown_of (PI s b c _ hl (GR.At.below ha (below_regrown wc d os)))
theorem TH (n:Nd) (A:bC) (w:World) (hz:eY n 1048600) (hp:dH n=true) (ha:bQ w A n):
 Calls Tryz.prog 56 #[fT n A] w (fF w (.bool (pJ n))):=by
 have HA:=Hq ha;have HD:=Hq (uV hp);have HSK:=Hq hz.sk;have Ro:=Hq (FD n A (w.alloc (.cells (dD n A) 30)) hz.k (GR.At.below ha.k (au w _)));have lU:=Hq (heap_alloc_new w (.cells (dD n A) 30));have hls:=hz.s;have hln:(lN n).length<=1048602:=by have:=hz.k;unfold lN;split<;>simp<;>omega
 have yY:=Hq (ow (lN n));generalize Nj (lN n)=F at *;generalize (lN n).length=NL at *;generalize pJ n=TT at *;clear ha hz hp;open aoW in exact yc
theorem yw (n:Nd) (A:bC) (w:World) (hz:eY n 1048600) (ha:bQ w A n):
 Calls Tryz.prog 18 #[fT n A] w (fF w (.bool (dY n))):=by
 have Ob:Hid (∀w1,aY w w1->Calls Tryz.prog 52 #[fT n A] w1 (fF w1 (.bool (dH n)))):=λw1 hb=>by
  have h:=TF n A w1 hz.k (ha.below hb).k
  rw [Ud] at h
  exact h
 have HPU:=Hq (λw1 (hb:aY w w1)=>uF A.p A.cp n.pu w1 hz.p (ha.below hb).p);have HOT:=Hq (λw1 (hb:aY w w1) (hp:dH n=true)=>XC n A w1 hz hp (ha.below hb));have HSE:=Hq (λw1 (hb:aY w w1) (hp:dH n=true)=>TH n A w1 hz hp (ha.below hb));have HRE:=Hq (λw1 (hb:aY w w1)=>TG n A w1 hz (ha.below hb));have HD:Hid (dY n=(dH n&&jo n.pu&&pJ n&&fV n.next&&sZ n&&iy n)):=rfl;have lU:=Hq (heap_alloc_new w (.cells (dD n A) 30));generalize dH n=PL at *;generalize jo n.pu=PS at *;generalize pJ n=TD at *;generalize sZ n=OT at *;generalize iy n=RQ at *;generalize dY n=TT at *;clear ha hz;open aoV in exact yc
abbrev fU:Array Value:=(gH 0 0 none 0 0 0 none 0 0 none 0 0 none 0 0 0 none 0 0)
theorem T9 {w:World} {B B2:Nat} {kv v:Value} (hk:w.ownsRow B 3 1 kv kids.length (GR.flat aS kids)) (hs:w.ownsRow B2 90 3 v fs.length (GR.flat eP (fs.map pz))):∃A,Value.agg (nnc id par kv v)=fT (dx id par kids fs) A/\bQ w A (dx id par kids fs):=by
 obtain⟨a1,c1,g1,rfl,hW1,_⟩:=GR.W.of_own aR hk;obtain⟨a2,c2,g2,rfl,hW2,_⟩:=jw.new hs;exact⟨⟨a1,none,none,a2,none,c1,0,0,c2,0⟩,by simp[nnc,fT,dD,dx],⟨hW1.at,GR.at_nil _ _,GR.at_nil _ _,hW2.at,GR.at_nil _ _⟩⟩
theorem wT {x g:Nat} (h:x∈[g]):x=g:=Abg
theorem aj7 (h1:kids.length<=1048600) (h2:fs.length<=1048600):eY (dx id par kids fs) 1048600:=
 ⟨h1,Aaz,Aaz,by simpa [dx] using h2,Aaz,λx hx=>Aci,λx hx=>Aci,λx hx=>by simp only[dx,List.mem_map] at hx;obtain⟨y,_,rfl⟩:=hx;simp,λx hx=>Aci⟩
end Go.Proofs.YtacgbldlonoaaaaGreatDoor
