/- Parts. -/
import Derived.Test.YtohmklmkjmlpjaaGreatDoorRk1
namespace Go.Proofs.YtohmklmkjmlpjaaGreatDoor
open Go.Proofs.Tryz
set_option maxHeartbeats 400000
open Go.RowKit
abbrev Ge (w w':World):Prop:=aI w w'
theorem Ge.trans {a b c:World} (h:Ge a b) (h':Ge b c):Ge a c:=Below.trans h (Below.mono h' (Below.size h))
abbrev Gr (w:World) (p:Regrown):World:=Sort.grow (redrawn w p.d) p.os
section
variable {P:Program} {ops:Array Oper} {Q:Exit->Act->World->Prop} {md:Region.Mode}
def gL (P:Program) (md:Region.Mode) (ops:Array Oper) (Q:Exit->Act->World->Prop):Nat->Array Bool->Act->World->Prop
 |0,listed,a,w=>Region.ready md ops listed=[]/\∀x,Ge w x->Q .normal a x
 |fuel+1,listed,a,w=>∀x,Ge w x->(Region.ready md ops listed=[]->Q .normal a x)/\∀i∈Region.ready md ops listed,wpOp P ops Q i (λa' y=>Ge x y/\gL P md ops Q fuel (listed.setIfInBounds i true) a' y) a x
theorem F8 {fuel:Nat} {listed:Array Bool} {a:Act} {w x:World} (hx:Ge w x) (h:gL P md ops Q fuel listed a w):gL P md ops Q fuel listed a x:=by
 exact adY
theorem Ai:∀(fuel:Nat) (listed:Array Bool) (a:Act) (w:World),gL P md ops Q fuel listed a w->wpAny P md ops Q fuel listed a w
 |0,_,_,w,h=>⟨h.1,h.2 w (Below.refl _ _)⟩
 |fuel+1,_,_,w,h=>⟨(h w (Below.refl _ _)).1,λi hi=>wpOp_mono (λa' y hy=>Ai fuel _ a' y hy.2) ((h w (Below.refl _ _)).2 i hi)⟩
def oC (P:Program) (ops:Array Oper) (o:Oper) (v:Value) (a:Act) (w:World):Prop:=
 (Region.wanted o (yielded ops a.tmps)=true/\∀x,Ge w x->Oper.quietUpon P (Ge x) x v ((execOp a.eval o).run P x))\/(Region.wanted o (yielded ops a.tmps)=false/\v=undef)
theorem oC.wpOp {i:Nat} {o:Oper} {v:Value} {a:Act} {w x:World} (hi:ops[i]?=some o) (hy:oC P ops o v a w) (hx:Ge w x) {K:Act->World->Prop} (h:∀y,Ge x y->K (a.put o.dst v) y):wpOp P ops Q i K a x:=by
 unfold Go.wpOp;simp only[hi];rcases hy with⟨hw,hv⟩|⟨hw,rfl⟩
 .rw [if_pos hw];left
  have h1:=hv x hx;unfold Oper.wp;generalize (execOp a.eval o).run P x=r at *;cases r with
  |halt e y=>simp only[Oper.quietUpon] at h1
  |ok n y=>
   cases n<;>simp only[Oper.quietUpon] at h1<;>simp only[Oper.upon]
   case value u=>obtain⟨rfl,rfl⟩:=h1;exact h _ (Below.refl _ _)
   case skip=>obtain⟨rfl,rfl⟩:=h1;exact h _ (Below.refl _ _)
   case enter f args=>
    obtain⟨rfl,hc⟩:=h1;exact hc.mono λe z ⟨he,hz⟩=>by subst he;exact h z hz
 .rw [if_neg (by rw [hw];simp)];exact h _ (Below.refl _ _)
theorem Yy {j:Nat} {oi oj:Oper} {v:Value} (hj:ops[j]?=some oj) (hap:oi.apart ops oj=true) (hsi:∀cs b,oi.op≠ .select cs b) (hsj:∀cs b,oj.op≠ .select cs b)
 (hQ:∀c a w,Q (.panic c) (a.put oi.dst v) w->Q (.panic c) a w) {K:Act->World->Prop} {a:Act} {x:World} (h:wpOp P ops Q j K (a.put oi.dst v) x):
 wpOp P ops Q j (λa' y=>(execOp a'.eval oi=execOp a.eval oi/\Region.wanted oi (yielded ops a'.tmps)=Region.wanted oi (yielded ops a.tmps))/\K (a'.put oi.dst v) y) a x:=by
 obtain⟨g1,g2,g3⟩:=Oper.apart_spec hap;have same:∀(b:Act) u,execOp (b.put oj.dst u).eval oi=execOp b.eval oi/\Region.wanted oi (yielded ops (b.put oj.dst u).tmps)=Region.wanted oi (yielded ops b.tmps):=λb u=>⟨execOp_put oi hsi b oj.dst u g3,wanted_put oi b oj.dst u g3⟩
 unfold wpOp at *;simp only[hj] at *;rw [wanted_put oj a oi.dst v g1] at h;by_cases hw:Region.wanted oj (yielded ops a.tmps)=true
 .rw [if_pos hw] at h ⊢;rcases h with h|⟨h,hl⟩
  .left
   unfold Oper.wp at *;rw [execOp_put oj hsj a oi.dst v g1] at h;generalize (execOp a.eval oj).run P x=r at *;cases r with
   |halt e y=>cases e<;>simp only[Oper.upon] at h ⊢;exact hQ _ _ _ h
   |ok n y=>
    cases n<;>simp only[Oper.upon] at h ⊢
    case value u=>exact⟨same a u,by rw [<-Act.put_comm a v u g2];exact h⟩
    case skip=>exact⟨same a _,by rw [<-Act.put_comm a v undef g2];exact h⟩
    case defer d=>
     refine⟨same {a with defers:=d::a.defers} _,?_⟩;rw [<-Act.put_comm _ v undef g2,<-Act.put_defers];exact h
    case enter f args=>
     refine Calls.mono h λe z he=>?_
     cases e with
     |returned u=>exact⟨same a u,by rw [<-Act.put_comm a v u g2];exact he⟩
     |panicked c=>exact hQ _ _ _ he
     |outgrown=>exact he
    case row r args=>exact Rows.mono h λu z he=>⟨same a u,by rw [<-Act.put_comm a v u g2];exact he⟩
  .right
   refine⟨?_,hl⟩;unfold Oper.asks at *;rw [execOp_put oj hsj a oi.dst v g1] at h;exact h
 .rw [if_neg hw] at h ⊢;exact⟨same a _,by rw [<-Act.put_comm a v undef g2];exact h⟩
theorem vS {i:Nat} {oi:Oper} {v:Value} (hi:ops[i]?=some oi) (hsel:∀(j:Nat) (o:Oper) cs b,ops[j]?=some o->o.op≠ .select cs b) (hQ:∀c a w,Q (.panic c) (a.put oi.dst v) w->Q (.panic c) a w):
 ∀(fuel:Nat) (listed:Array Bool) (a:Act) (w:World),
  (∀j oj,ops[j]?=some oj->j≠i->listed.getD j true=false->(∀e∈oj.after,Region.binds md e=true->e.on≠i)->oi.apart ops oj=true)->
  i∈Region.ready md ops listed->oC P ops oi v a w->gL P md ops Q fuel (listed.setIfInBounds i true) (a.put oi.dst v) w->gL P md ops Q (fuel+1) listed a w:=by
 intro fuel;induction fuel with
 |zero=>
  intro listed a w _ hr hy H x hx;refine⟨λh=>Aby,λj hj=>?_⟩;by_cases hji:j=i
  .exact aiF
  .exact Ob
 |succ fuel ih=>
  intro listed a w hfree hr hy H x hx;refine⟨λh=>Aby,λj hj=>?_⟩;by_cases hji:j=i
  .exact aiF
  .have h1:=(H x hx).2 j (ready_mono hj hji);open aBf in exact adL
theorem aJ (i:Nat) {oi:Oper} {fuel:Nat} {listed:Array Bool} {a:Act} {w:World} (hi:ops[i]?=some oi) (hs:Region.noSelect ops=true) (hf:Region.free md ops listed i=true) (hr:(Region.ready md ops listed).contains i=true)
 (hQ:∀v c a w,Q (.panic c) (a.put oi.dst v) w->Q (.panic c) a w)
 (h:∀K:Act->Prop,(∀a',gL P md ops Q fuel (listed.setIfInBounds i true) a' w->K a')->if Region.wanted oi (yielded ops a.tmps) then∃v,(∀p:Regrown,Oper.quietUpon P (Ge (Gr w p)) (Gr w p) v ((execOp a.eval oi).run P (Gr w p)))/\K (a.put oi.dst v) else K (a.put oi.dst undef)):
 gL P md ops Q (fuel+1) listed a w:=by
 have h':=h _ λ_ h=>h
 by_cases hw:Region.wanted oi (yielded ops a.tmps)=true
 .rw [if_pos hw] at h';obtain⟨v,hv,hk⟩:=h';refine vS hi (Region.noSelect_spec hs) (hQ v) fuel listed a w (Region.free_spec hi hf) Aau (.inl ⟨hw,λx hx=>?_⟩) hk;exact aaC
 .rw [if_neg hw] at h';exact vS hi (Region.noSelect_spec hs) (hQ undef) fuel listed a w (Region.free_spec hi hf) Aau (.inr ⟨Abz,rfl⟩) h'
theorem fI (i:Nat) {oi:Oper} {fuel:Nat} {listed:Array Bool} {a:Act} {w:World} (hi:ops[i]?=some oi) (hr:Region.ready md ops listed=[i]) (hw:Region.wanted oi (yielded ops a.tmps)=true)
 (h:∀x,Ge w x->oi.wp P a x (λa' y=>Ge x y/\gL P md ops Q fuel (listed.setIfInBounds i true) a' y) Q):gL P md ops Q (fuel+1) listed a w:=by
 intro x hx;exact ahL
theorem eX {listed:Array Bool} {a:Act} {w:World} (hr:Region.ready md ops listed=[]) (h:∀x,Ge w x->Q .normal a x):gL P md ops Q 0 listed a w:=⟨hr,h⟩
theorem dx {id:Nat} {a:Act} {w:World} (hm:P.follows .mixedOrders=true) (h:gL P .any ops Q ops.size (Array.replicate ops.size false) a w):(Code.region id ops true).wp P Q a w:=
 wp_region_any hm (Ai _ _ _ _ (F8 (w:=w) (x:={w with drawn:=w.drawn+1}) ⟨rfl,rfl,rfl,Nat.le_refl _,λ_ _=>rfl⟩ h))
end
namespace Mth
structure Pu where
 k:ByteArray
 m:Int
 f:Int
 s:Int
instance:Inhabited Pu:=⟨⟨ByteArray.empty,0,0,0⟩⟩
abbrev gu (p:Pu):List Value:=[.string p.k,.int .i64 p.m,.int .i64 p.f,.int .i64 p.s]
abbrev wS (p:Pu):Value:= .agg #[.string p.k,.int .i64 p.m,.int .i64 p.f,.int .i64 p.s]
theorem aW (p:Pu):(gu p).length=4:=rfl
def sle (a b:ByteArray):Bool:=Op.bytesLess a.toList b.toList||a.toList == b.toList
def qw (n:Int):Bool:=decide (0<=n/\n<=1000000000)
def iy (p:Pu):Bool:=keyOk p.k.data.toList&&qw p.m&&qw p.f&&qw p.s&&qw (p.f+p.s)
def nL (l:List Pu) (i:Nat):Bool:=iy (l.getD i default)&&(i == 0|| !sle (l.getD i default).k (l.getD (i - 1) default).k)
def jk (l:List Pu):Bool:=(List.range l.length).all (nL l)&&decide (l.length<=20)
theorem pJ (f:Nat->Bool) (k:Nat):(List.range (k+1)).all f=((List.range k).all f&&f k):=by
 rw [List.range_succ,List.all_append];simp
theorem nM {l:List Pu} {i:Nat} (hi:i < l.length) (h:nL l i=false):jk l=false:=by
 unfold jk
 have:(List.range l.length).all (nL l)=false:=by
  rw [List.all_eq_false];exact⟨i,List.mem_range.2 hi,by rw [h];simp⟩
 rw [this];rfl
theorem XD {l:List Pu} (h:(List.range l.length).all (nL l)=true):jk l=decide (l.length<=20):=by unfold jk;rw [h];rfl
def aD (l:List Pu) (k:ByteArray):Pu:=(l.find? λp=>p.k.toList == k.toList).getD ⟨k,0,0,0⟩
theorem Jq (f:Pu->Bool) (l:List Pu) (i:Nat) (hi:i < l.length) (h:(l.take i).find? f=none):(f l[i]=true->l.find? f=some l[i])/\(f l[i]=false->(l.take (i+1)).find? f=none):=by
 exact axG
theorem getD_at (l:List Pu) (i:Nat) (hi:i < l.length):l.getD i default=l[i]:=by rw [List.getD_eq_getElem?_getD,List.getElem?_eq_getElem hi];rfl
end Mth
abbrev iW (k:ByteArray) (m f s:Int):Array Value:=#[.string k,.int .i64 m,.int .i64 f,.int .i64 s]
abbrev gJ (i t:Int) (k:ByteArray) (n:Int):Array Value:=#[.int .i64 i,.int .i64 t,.string k,.int .i64 n]
abbrev fA (i:Int) (k:ByteArray) (n s:Int):Array Value:=#[.int .i64 i,.string k,.int .i64 n,.int .i64 s]
namespace Mth
abbrev Lv (a b:Pu):Prop:=a.k.toList < b.k.toList
theorem pW (a b:ByteArray):Op.bytesLess a.toList b.toList=true↔a.toList < b.toList:=by
 rw [bytesLess_eq,decide_eq_true_iff]
theorem nA (a b:ByteArray):sle a b=false↔b.toList < a.toList:=by
 unfold sle;rw [bytesLess_eq,Bool.or_eq_false_iff,decide_eq_false_iff_not,beq_eq_false_iff_ne];constructor
 .rintro⟨h1,h2⟩;rcases List.le_iff_lt_or_eq.1 (List.not_lt.1 h1) with h|h
  .exact h
  .exact absurd h.symm h2
 .intro h;exact⟨List.lt_asymm h,λe=>by rw [e] at h;exact List.lt_irrefl _ h⟩
theorem BA {R:Pu->Pu->Prop} (tr:∀a b c,R a b->R b c->R a c):∀(l:List Pu),(∀i (h:i+1 < l.length),R l[i] l[i+1])->l.Pairwise R:=by
 intro l;induction l with
 |nil=>intro _;exact List.Pairwise.nil
 |cons x r ih=>
  intro h;have hr:r.Pairwise R:=ih λi hi=>h (i+1) Aap
  refine List.Pairwise.cons ?_ hr;intro y hy;cases r with
  |nil=>simp at hy
  |cons z s=>
   have hxz:R x z:=h 0 Aac;rcases List.mem_cons.1 hy with rfl|hy
   .exact hxz
   .exact tr _ _ _ hxz ((List.pairwise_cons.1 hr).1 y hy)
theorem jR (l:List Pu):jk l=true↔(∀p∈l,iy p=true)/\l.Pairwise Lv/\l.length<=20:=by
 unfold jk;rw [Bool.and_eq_true,List.all_eq_true,decide_eq_true_iff];constructor
 .rintro⟨h,h20⟩;refine⟨?_,?_,h20⟩
  .intro p hp;obtain⟨i,hi,rfl⟩:=List.mem_iff_getElem.1 hp;have h1:=h i (List.mem_range.2 hi);unfold nL at h1;rw [Bool.and_eq_true] at h1;simpa [List.getD,hi] using h1.1
  .refine BA (λa b c (h1:Lv a b) (h2:Lv b c)=>(List.lt_trans h1 h2:Lv a c)) l λi hi=>?_
   have h1:=h (i+1) (List.mem_range.2 hi);unfold nL at h1;rw [Bool.and_eq_true] at h1;have h2:=h1.2;have hi0:i < l.length:=Aaa
   simp[List.getD,hi,hi0] at h2;exact(nA _ _).1 h2
 .rintro⟨h,hp,h20⟩;refine⟨?_,h20⟩;intro i hi;have hi':=List.mem_range.1 hi;unfold nL;rw [Bool.and_eq_true];refine⟨by simpa [List.getD,hi'] using h l[i] (List.getElem_mem hi'),?_⟩;cases i with
  |zero=>rfl
  |succ i=>
   have hi0:i < l.length:=Aaa
   have h2:=(nA l[i+1].k l[i].k).2 (List.pairwise_iff_getElem.1 hp i (i+1) hi0 hi' Aaa);simp[List.getD,hi',hi0,h2]
def rG (l:List Pu) (k:ByteArray):List Pu:=l.takeWhile λq=>Op.bytesLess q.k.toList k.toList
def kJ (l:List Pu) (k:ByteArray):List Pu:=l.dropWhile λq=>Op.bytesLess q.k.toList k.toList
def kC (l:List Pu) (k:ByteArray):List Pu:=match kJ l k with
 |[]=>[]
 |q::r=>if q.k.toList == k.toList then r else q::r
def jd (l:List Pu) (p:Pu):List Pu:=rG l p.k++p::kC l p.k
theorem vY (l:List Pu) (k:ByteArray):rG l k++kJ l k=l:=List.takeWhile_append_dropWhile
theorem IK (f:Pu->Bool):∀(l:List Pu) (q:Pu),q∈l.takeWhile f->f q=true:=by
 intro l;induction l with
 |nil=>intro q hq;simp at hq
 |cons x r ih=>
  intro q hq;rw [List.takeWhile_cons] at hq;split at hq
  .rename_i hx
   rcases List.mem_cons.1 hq with rfl|hq
   .exact hx
   .exact ih q hq
  .simp at hq
theorem zq {l:List Pu} {k:ByteArray} {q:Pu} (h:q∈rG l k):q.k.toList < k.toList:=(pW _ _).1 (IK _ l q h)
theorem FW (l:List Pu) (k:ByteArray):∀q∈kC l k,q∈kJ l k:=by
 intro q hq;unfold kC at hq;split at hq
 .simp at hq
 .rename_i x r e
  rw [e];split at hq
  .exact List.mem_cons_of_mem _ hq
  .exact hq
theorem Bc (l:List Pu) (k:ByteArray) (q:Pu) (r:List Pu) (h:kJ l k=q::r):¬q.k.toList < k.toList:=by
 unfold kJ at h;have h2:=List.head?_dropWhile_not (λq:Pu=>Op.bytesLess q.k.toList k.toList) l;rw [h] at h2;simp at h2;intro h3;rw [(pW _ _).2 h3] at h2;cases h2
theorem MJ {l:List Pu} {k:ByteArray} (hp:l.Pairwise Lv):∀q∈kC l k,k.toList < q.k.toList:=by
 have hp2:(kJ l k).Pairwise Lv:=hp.sublist (List.dropWhile_sublist _);unfold kC;cases hf:kJ l k with
 |nil=>intro q hq;simp at hq
 |cons x r=>
  have hx:=Bc l k x r hf;rw [hf] at hp2;have hr:=(List.pairwise_cons.1 hp2).1;dsimp only;by_cases he:x.k.toList=k.toList
  .rw [if_pos (by simpa using he)];intro q hq;have:=hr q hq;unfold Lv at this;rw [he] at this;exact this
  .rw [if_neg (by simpa using he)]
   have hkx:k.toList < x.k.toList:=by
    rcases List.le_iff_lt_or_eq.1 (List.not_lt.1 hx) with h|h
    .exact h
    .exact absurd h.symm he
   intro q hq;rcases List.mem_cons.1 hq with rfl|hq
   .exact hkx
   .exact List.lt_trans hkx (hr q hq)
theorem IJ {l:List Pu} {k:ByteArray} (hp:l.Pairwise Lv):(kC l k).Pairwise Lv:=by
 have hp2:(kJ l k).Pairwise Lv:=hp.sublist (List.dropWhile_sublist _);unfold kC;cases hf:kJ l k with
 |nil=>exact List.Pairwise.nil
 |cons x r=>
  rw [hf] at hp2;dsimp only;split
  .exact(List.pairwise_cons.1 hp2).2
  .exact hp2
theorem acy {l:List Pu} (p:Pu) (h:jk l=true):jk (jd l p)=(iy p&&decide ((jd l p).length<=20)):=by
 obtain⟨h1,h2,h3⟩:=(jR l).1 h;apply Bool.eq_iff_iff.2
 rw [jR,Bool.and_eq_true,decide_eq_true_iff];constructor
 .rintro⟨g1,_,g3⟩;exact⟨g1 p (by unfold jd;simp),g3⟩
 .rintro⟨g1,g3⟩;refine⟨?_,?_,g3⟩
  .intro q hq;unfold jd at hq;rcases List.mem_append.1 hq with hq|hq
   .exact h1 q ((List.takeWhile_sublist _).mem hq)
   .rcases List.mem_cons.1 hq with rfl|hq
    .exact g1
    .exact h1 q ((List.dropWhile_sublist _).mem (FW l p.k q hq))
  .unfold jd;rw [List.pairwise_append];refine⟨h2.sublist (List.takeWhile_sublist _),List.pairwise_cons.2 ⟨λq hq=>MJ h2 q hq,IJ h2⟩,?_⟩;intro q hq q' hq';rcases List.mem_cons.1 hq' with rfl|hq'
   .exact zq hq
   .exact List.lt_trans (zq hq) (MJ h2 q' hq')
def qQ (l:List Pu) (p:Pu) (n:Int):List Pu×Bool:=
 if jk l&&decide (1<=n/\n<=1000000000)&&jk (jd l p) then(jd l p,true) else(l,false)
end Mth
section
variable {P:Program} {ops:Array Oper} {Q:Exit->Act->World->Prop} {md:Region.Mode}
theorem xA {w x:World} {b o:Nat} {cs:List Value} (h:w.rangeAt b o cs) (hb:b < w.heap.size) (hx:Ge w x):x.rangeAt b o cs:=λj v hv=>by
 rw [Below.cell (p:=⟨b,o+j,none⟩) hx hb];exact h j v hv
theorem lq (i:Nat) {oi:Oper} {fuel:Nat} {listed:Array Bool} {a:Act} {w:World} (hi:ops[i]?=some oi) (hs:Region.noSelect ops=true) (hf:Region.free md ops listed i=true) (hr:(Region.ready md ops listed).contains i=true)
 (hQ:∀v c a w,Q (.panic c) (a.put oi.dst v) w->Q (.panic c) a w) (hw:Region.wanted oi (yielded ops a.tmps)=true)
 (ty:TypeId) (x:Operand) (ho:oi.op= .load ty x) (b o:Nat) (hx:a.eval x= .pointer (some ⟨b,o,none⟩)) (cs:List Value) (d:TypeDesc) (hc:w.rangeAt b o cs) (hb:b < w.heap.size)
 (hu:P.underlying ty=some d) (hd:d.isRow=true) (hz:(P.info? ty).map (·.size)=some cs.length)
 (h:gL P md ops Q fuel (listed.setIfInBounds i true) (a.put oi.dst (.agg cs.toArray)) w):gL P md ops Q (fuel+1) listed a w:=by
 refine vS hi (Region.noSelect_spec hs) (hQ _) fuel listed a w (Region.free_spec hi hf) Aau (.inl ⟨hw,λy hy=>?_⟩) h;unfold execOp;simp only[ho,hx,Instr.loadAt,Instr.sureAddr,Sem.run_bind,Sem.run_pure,Result.andThen_ok,run_loadVar_mid y b o ty cs d (xA hc hb hy) hu hd hz];exact⟨rfl,rfl⟩
end
set_option maxRecDepth 100000
theorem K8 (s:ByteArray) (w:World) (hs:s.size<=maxLen):
 Calls Tryz.prog 224 #[.string s] w λe w'=>e= .returned (.int .u32 (65536*(Mth.sums s.data.toList).2+(Mth.sums s.data.toList).1))/\w=w':=by
 unfold maxLen at hs;go_in
 go_wp2
 go_loop [3,4,8] (λa b i=>∃k:Nat,k<=s.size/\i= .int .i64 k/\a= .int .u32 (Mth.sums (s.data.toList.take k)).1/\b= .int .u32 (Mth.sums (s.data.toList.take k)).2) (λ_ _ i=>s.size - (intOf i).toNat)
 case atStart=>exact⟨0,Nat.zero_le _,rfl,rfl,rfl⟩
 case round=>
  exact axn
theorem Ml (s:ByteArray) (w:World) (hs:s.size<=maxLen):
 Calls Tryz.prog 56 #[.string s] w λe w'=>e= .returned (.int .u32 (65536*(Mth.sums s.data.toList).2+(Mth.sums s.data.toList).1))/\w=w':=by
 unfold maxLen at hs;go_in
 go_wp2
 go_loop [3,4,5] (λa b i=>∃k:Nat,k<=s.size/\i= .int .i64 k/\a= .int .i64 (Mth.sums (s.data.toList.take k)).1/\b= .int .i64 (Mth.sums (s.data.toList.take k)).2) (λ_ _ i=>s.size - (intOf i).toNat)
 case atStart=>exact⟨0,Nat.zero_le _,rfl,rfl,rfl⟩
 case round=>
  exact axn
end Go.Proofs.YtohmklmkjmlpjaaGreatDoor
