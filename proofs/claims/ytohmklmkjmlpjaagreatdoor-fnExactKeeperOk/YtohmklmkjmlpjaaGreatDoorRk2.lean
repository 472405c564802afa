/- Parts. -/
import Derived.Test.YtohmklmkjmlpjaaGreatDoorRk1
namespace Go.Proofs.YtohmklmkjmlpjaaGreatDoor
open Go.Proofs.Tryz
open Go.RowKit
abbrev Ge (w w':World):Prop:=aI w w'
theorem Ge.trans {a b c:World} (h:Ge a b) (h':Ge b c):Ge a c:=Below.trans h (Below.mono h' (Below.size h))
abbrev Gr (w:World) (p:Regrown):World:=Sort.grow (redrawn w p.d) p.os
section
variable {P:Program} {ops:Array Oper} {Q:Exit->Act->World->Prop} {md:Region.Mode}
def gT (P:Program) (md:Region.Mode) (ops:Array Oper) (Q:Exit->Act->World->Prop):Nat->Array Bool->Act->World->Prop
 |0,listed,a,w=>Region.ready md ops listed=[]/\∀x,Ge w x->Q .normal a x
 |fuel+1,listed,a,w=>∀x,Ge w x->(Region.ready md ops listed=[]->Q .normal a x)/\∀i∈Region.ready md ops listed,wpOp P ops Q i (λa' y=>Ge x y/\gT P md ops Q fuel (listed.setIfInBounds i true) a' y) a x
theorem Gc {fuel:Nat} {listed:Array Bool} {a:Act} {w x:World} (hx:Ge w x) (h:gT P md ops Q fuel listed a w):gT P md ops Q fuel listed a x:=by
 exact aaT
theorem Al:∀(fuel:Nat) (listed:Array Bool) (a:Act) (w:World),gT P md ops Q fuel listed a w->wpAny P md ops Q fuel listed a w
 |0,_,_,w,h=>⟨h.1,h.2 w (Below.refl _ _)⟩
 |fuel+1,_,_,w,h=>⟨(h w (Below.refl _ _)).1,λi hi=>wpOp_mono (λa' y hy=>Al fuel _ a' y hy.2) ((h w (Below.refl _ _)).2 i hi)⟩
def qH (P:Program) (ops:Array Oper) (o:Oper) (v:Value) (a:Act) (w:World):Prop:=
 (Region.wanted o (yielded ops a.tmps)=true/\∀x,Ge w x->Oper.quietUpon P (Ge x) x v ((execOp a.eval o).run P x))\/(Region.wanted o (yielded ops a.tmps)=false/\v=undef)
theorem qH.wpOp {i:Nat} {o:Oper} {v:Value} {a:Act} {w x:World} (hi:ops[i]?=some o) (hy:qH P ops o v a w) (hx:Ge w x) {K:Act->World->Prop} (h:∀y,Ge x y->K (a.put o.dst v) y):wpOp P ops Q i K a x:=by
 unfold Go.wpOp;simp only[hi];rcases hy with⟨hw,hv⟩|⟨hw,rfl⟩
 .rw [if_pos hw];left
  have h1:=hv x hx;unfold Oper.wp;generalize (execOp a.eval o).run P x=r at *;cases r with
  |halt e y=>simp only[Oper.quietUpon] at h1
  |ok n y=>
   cases n<;>simp only[Oper.quietUpon] at h1<;>simp only[Oper.upon]
   case value u=>obtain⟨rfl,rfl⟩:=h1;exact h _ (Below.refl _ _)
   case skip=>obtain⟨rfl,rfl⟩:=h1;exact h _ (Below.refl _ _)
   case enter f args=>
    obtain⟨rfl,hc⟩:=h1;exact hc.mono λe z ⟨he,hz⟩=>by subst he;exact h z hz
 .rw [if_neg (by rw [hw];simp)];exact h _ (Below.refl _ _)
theorem Zd {j:Nat} {oi oj:Oper} {v:Value} (hj:ops[j]?=some oj) (hap:oi.apart ops oj=true) (hsi:∀cs b,oi.op≠ .select cs b) (hsj:∀cs b,oj.op≠ .select cs b)
 (hQ:∀c a w,Q (.panic c) (a.put oi.dst v) w->Q (.panic c) a w) {K:Act->World->Prop} {a:Act} {x:World} (h:wpOp P ops Q j K (a.put oi.dst v) x):
 wpOp P ops Q j (λa' y=>(execOp a'.eval oi=execOp a.eval oi/\Region.wanted oi (yielded ops a'.tmps)=Region.wanted oi (yielded ops a.tmps))/\K (a'.put oi.dst v) y) a x:=by
 obtain⟨g1,g2,g3⟩:=Oper.apart_spec hap;have same:∀(b:Act) u,execOp (b.put oj.dst u).eval oi=execOp b.eval oi/\Region.wanted oi (yielded ops (b.put oj.dst u).tmps)=Region.wanted oi (yielded ops b.tmps):=λb u=>⟨execOp_put oi hsi b oj.dst u g3,wanted_put oi b oj.dst u g3⟩
 unfold wpOp at *;simp only[hj] at *;rw [wanted_put oj a oi.dst v g1] at h;by_cases hw:Region.wanted oj (yielded ops a.tmps)=true
 .rw [if_pos hw] at h ⊢;rcases h with h|⟨h,hl⟩
  .left
   unfold Oper.wp at *;rw [execOp_put oj hsj a oi.dst v g1] at h;generalize (execOp a.eval oj).run P x=r at *;cases r with
   |halt e y=>cases e<;>simp only[Oper.upon] at h ⊢;exact hQ _ _ _ h
   |ok n y=>
    cases n<;>simp only[Oper.upon] at h ⊢
    case value u=>exact⟨same a u,by rw [<-Act.put_comm a v u g2];exact h⟩
    case skip=>exact⟨same a _,by rw [<-Act.put_comm a v undef g2];exact h⟩
    case defer d=>
     refine⟨same {a with defers:=d::a.defers} _,?_⟩;rw [<-Act.put_comm _ v undef g2,<-Act.put_defers];exact h
    case enter f args=>
     refine Calls.mono h λe z he=>?_
     cases e with
     |returned u=>exact⟨same a u,by rw [<-Act.put_comm a v u g2];exact he⟩
     |panicked c=>exact hQ _ _ _ he
     |outgrown=>exact he
    case row r args=>exact Rows.mono h λu z he=>⟨same a u,by rw [<-Act.put_comm a v u g2];exact he⟩
  .right
   refine⟨?_,hl⟩;unfold Oper.asks at *;rw [execOp_put oj hsj a oi.dst v g1] at h;exact h
 .rw [if_neg hw] at h ⊢;exact⟨same a _,by rw [<-Act.put_comm a v undef g2];exact h⟩
theorem vU {i:Nat} {oi:Oper} {v:Value} (hi:ops[i]?=some oi) (hsel:∀(j:Nat) (o:Oper) cs b,ops[j]?=some o->o.op≠ .select cs b) (hQ:∀c a w,Q (.panic c) (a.put oi.dst v) w->Q (.panic c) a w):
 ∀(fuel:Nat) (listed:Array Bool) (a:Act) (w:World),
  (∀j oj,ops[j]?=some oj->j≠i->listed.getD j true=false->(∀e∈oj.after,Region.binds md e=true->e.on≠i)->oi.apart ops oj=true)->
  i∈Region.ready md ops listed->qH P ops oi v a w->gT P md ops Q fuel (listed.setIfInBounds i true) (a.put oi.dst v) w->gT P md ops Q (fuel+1) listed a w:=by
 intro fuel;induction fuel with
 |zero=>
  intro listed a w _ hr hy H x hx;refine⟨λh=>Abh,λj hj=>?_⟩;by_cases hji:j=i
  .exact ajU
  .exact Vz
 |succ fuel ih=>
  intro listed a w hfree hr hy H x hx;refine⟨λh=>Abh,λj hj=>?_⟩;by_cases hji:j=i
  .exact ajU
  .have h1:=(H x hx).2 j (ready_mono hj hji);open aoG in exact akK
theorem aP (i:Nat) {oi:Oper} {fuel:Nat} {listed:Array Bool} {a:Act} {w:World} (hi:ops[i]?=some oi) (hs:Region.noSelect ops=true) (hf:Region.free md ops listed i=true) (hr:(Region.ready md ops listed).contains i=true)
 (hQ:∀v c a w,Q (.panic c) (a.put oi.dst v) w->Q (.panic c) a w)
 (h:∀K:Act->Prop,(∀a',gT P md ops Q fuel (listed.setIfInBounds i true) a' w->K a')->if Region.wanted oi (yielded ops a.tmps) then∃v,(∀p:Regrown,Oper.quietUpon P (Ge (Gr w p)) (Gr w p) v ((execOp a.eval oi).run P (Gr w p)))/\K (a.put oi.dst v) else K (a.put oi.dst undef)):
 gT P md ops Q (fuel+1) listed a w:=by
 have h':=h _ λ_ h=>h
 by_cases hw:Region.wanted oi (yielded ops a.tmps)=true
 .rw [if_pos hw] at h';obtain⟨v,hv,hk⟩:=h';refine vU hi (Region.noSelect_spec hs) (hQ v) fuel listed a w (Region.free_spec hi hf) Abb (.inl ⟨hw,λx hx=>?_⟩) hk;exact abd
 .rw [if_neg hw] at h';exact vU hi (Region.noSelect_spec hs) (hQ undef) fuel listed a w (Region.free_spec hi hf) Abb (.inr ⟨Acg,rfl⟩) h'
theorem fT (i:Nat) {oi:Oper} {fuel:Nat} {listed:Array Bool} {a:Act} {w:World} (hi:ops[i]?=some oi) (hr:Region.ready md ops listed=[i]) (hw:Region.wanted oi (yielded ops a.tmps)=true)
 (h:∀x,Ge w x->oi.wp P a x (λa' y=>Ge x y/\gT P md ops Q fuel (listed.setIfInBounds i true) a' y) Q):gT P md ops Q (fuel+1) listed a w:=by
 intro x hx;exact ai5
theorem fu {listed:Array Bool} {a:Act} {w:World} (hr:Region.ready md ops listed=[]) (h:∀x,Ge w x->Q .normal a x):gT P md ops Q 0 listed a w:=⟨hr,h⟩
theorem dz {id:Nat} {a:Act} {w:World} (hm:P.follows .mixedOrders=true) (h:gT P .any ops Q ops.size (Array.replicate ops.size false) a w):(Code.region id ops true).wp P Q a w:=
 wp_region_any hm (Al _ _ _ _ (Gc (w:=w) (x:={w with drawn:=w.drawn+1}) ⟨rfl,rfl,rfl,Nat.le_refl _,λ_ _=>rfl⟩ h))
end
open Go.RowKit
theorem mW (x a b:Int) (w:World) (h1:a<=x) (h2:x<=b):Calls prog 18 #[.int .i64 x,.int .i64 a,.int .i64 b] w λe w'=>e= .returned (.bool true)/\w=w':=by
 exact aa5
theorem XV (x a b:Int) (w:World) (h1:x < a):Calls prog 18 #[.int .i64 x,.int .i64 a,.int .i64 b] w λe w'=>e= .returned (.bool false)/\w=w':=by
 have h2:¬a<=x:=Aaa
 exact aa5
theorem TJ (x a b:Int) (w:World) (h1:a<=x) (h3:b < x):Calls prog 18 #[.int .i64 x,.int .i64 a,.int .i64 b] w λe w'=>e= .returned (.bool false)/\w=w':=by
 have h2:¬x<=b:=Aaa
 exact aa5
theorem pX (x a b:Int) (w:World) (h:x < a\/b < x):Calls prog 18 #[.int .i64 x,.int .i64 a,.int .i64 b] w λe w'=>e= .returned (.bool false)/\w=w':=by
 by_cases h1:x < a
 .exact XV x a b w h1
 .exact TJ x a b w Aaa Aaa
set_option maxHeartbeats 1000000
set_option maxRecDepth 100000
theorem JW (s:ByteArray) (w:World) (hs:s.size<=maxLen):
 Calls prog 52 #[.string s] w λe w'=>e= .returned (.bool (Mth.keyOk s.data.toList))/\w=w':=by
 unfold maxLen at hs;go_in
 go_wp2
 go_loop [3] (λi=>∃k:Nat,k<=s.size/\i= .int .i64 k/\(s.data.toList.take k).all Mth.keyByte=true) (λi=>s.size - (intOf i).toNat)
 case atStart=>exact⟨0,Nat.zero_le _,rfl,rfl⟩
 case round=>
  obtain⟨k,hk,rfl,hall⟩:=hrel;have HA:=Hq hall;clear hall;by_cases hlt:k < s.size
  .open av6 in exact ag7
  .open azb in exact ahX
theorem JV (n:Int) (w:World) (h1:97<=n) (h2:n<=122):Calls prog 231 #[.int .u8 n] w λe w'=>e= .returned (.bool true)/\w=w':=by
 exact aaZ
theorem QD (n:Int) (w:World) (h:n < 97\/122 < n):Calls prog 231 #[.int .u8 n] w λe w'=>e= .returned (.bool false)/\w=w':=by
 by_cases h1:97<=n
 .have h2:¬n<=122:=Aaa
  clear h;exact aaZ
 .clear h;exact aaZ
theorem Jj (n:Int) (w:World) (h1:48<=n) (h2:n<=57):Calls prog 232 #[.int .u8 n] w λe w'=>e= .returned (.bool true)/\w=w':=by
 exact aa0
theorem OV (n:Int) (w:World) (h:n < 48\/57 < n):Calls prog 232 #[.int .u8 n] w λe w'=>e= .returned (.bool false)/\w=w':=by
 by_cases h1:48<=n
 .have h2:¬n<=57:=Aaa
  clear h;exact aa0
 .clear h;exact aa0
set_option maxHeartbeats 1000000
theorem Js (s:ByteArray) (w:World):
 Calls prog 204 #[.string s] w λe w'=>e= .returned (.bool (Mth.keyOk s.data.toList))/\w=w':=by
 by_cases hlen:(1:Int)<=(s.size:Int)/\(s.size:Int)<=10
 .obtain⟨hs1,hs2⟩:=hlen;have hne:s.toList.isEmpty=false:=kC s Aaa;have h10:decide (10 < (s.size:Int))=false:=Aag
  go_in
  go_wp2
  go_loop [13] (λi=>∃k:Nat,k<=s.size/\i= .int .i64 k/\(s.data.toList.take k).all Mth.keyByte=true) (λi=>s.size - (intOf i).toNat)
  case atStart=>exact⟨0,Nat.zero_le _,rfl,rfl⟩
  case round=>
   obtain⟨k,hk,rfl,hall⟩:=hrel;have HA:=Hq hall;clear hall;by_cases hlt:k < s.size
   .open av7 in exact ag7
   .open azc in exact ahX
 .have HF:Hid (Mth.keyOk s.data.toList=false):=Mth.keyOk_len _ (by rw [bE];omega);by_cases h0:s.size=0
  .have he:s=ByteArray.empty:=eq_empty s h0;subst he;exact ajG
  .have hne:s.toList.isEmpty=false:=kC s Aaa;have h10:10 < (s.size:Int):=Aaa
   exact ajG
def xM (x a b:Int):Prop:=a<=x/\x<=b
instance (x a b:Int):Decidable (xM x a b):=by unfold xM;infer_instance
theorem TI (x a b:Int) (w:World):Calls prog 18 #[.int .i64 x,.int .i64 a,.int .i64 b] w λe w'=>e= .returned (.bool (decide (xM x a b)))/\w=w':=by
 by_cases h:xM x a b
 .rw [decide_eq_true h];exact mW x a b w h.1 h.2
 .rw [decide_eq_false h];exact pX x a b w (by unfold xM at h;omega)
theorem wE (n:Int) (w:World):Calls prog 50 #[.int .i64 n] w λe w'=>e= .returned (.bool (decide (xM n 0 1000000000)))/\w=w':=by
 go_in
 go_wp2_with (go_at_call 18;refine(TI _ _ _ _).mono ?_;rintro e w1 ⟨rfl,rfl⟩)
 go_ret;exact⟨rfl,rfl⟩
end Go.Proofs.YtohmklmkjmlpjaaGreatDoor
namespace Go.Proofs.YtohmklmkjmlpjaaGreatDoor.Mth
open Go.Proofs.Tryz
open Go.Lib (decDigits itoa)
end Go.Proofs.YtohmklmkjmlpjaaGreatDoor.Mth
namespace Go.Proofs.YtohmklmkjmlpjaaGreatDoor
open Go.Proofs.Tryz
open Go.RowKit
section
variable {P:Program} {ops:Array Oper} {Q:Exit->Act->World->Prop} {md:Region.Mode}
theorem xD {w x:World} {b o:Nat} {cs:List Value} (h:w.rangeAt b o cs) (hb:b < w.heap.size) (hx:Ge w x):x.rangeAt b o cs:=λj v hv=>by
 rw [Below.cell (p:=⟨b,o+j,none⟩) hx hb];exact h j v hv
theorem lH (i:Nat) {oi:Oper} {fuel:Nat} {listed:Array Bool} {a:Act} {w:World} (hi:ops[i]?=some oi) (hs:Region.noSelect ops=true) (hf:Region.free md ops listed i=true) (hr:(Region.ready md ops listed).contains i=true)
 (hQ:∀v c a w,Q (.panic c) (a.put oi.dst v) w->Q (.panic c) a w) (hw:Region.wanted oi (yielded ops a.tmps)=true)
 (ty:TypeId) (x:Operand) (ho:oi.op= .load ty x) (b o:Nat) (hx:a.eval x= .pointer (some ⟨b,o,none⟩)) (cs:List Value) (d:TypeDesc) (hc:w.rangeAt b o cs) (hb:b < w.heap.size)
 (hu:P.underlying ty=some d) (hd:d.isRow=true) (hz:(P.info? ty).map (·.size)=some cs.length)
 (h:gT P md ops Q fuel (listed.setIfInBounds i true) (a.put oi.dst (.agg cs.toArray)) w):gT P md ops Q (fuel+1) listed a w:=by
 refine vU hi (Region.noSelect_spec hs) (hQ _) fuel listed a w (Region.free_spec hi hf) Abb (.inl ⟨hw,λy hy=>?_⟩) h;unfold execOp;simp only[ho,hx,Instr.loadAt,Instr.sureAddr,Sem.run_bind,Sem.run_pure,Result.andThen_ok,run_loadVar_mid y b o ty cs d (xD hc hb hy) hu hd hz];exact⟨rfl,rfl⟩
end
set_option maxRecDepth 100000
open Go.RowKit Go.Extern.Stop Go.Stop Go.Extern
structure iI (w:World) (E:Nat->Addr):Prop where
 var:∀i,(1<=i/\i < 6)->w.cell? ⟨i,0,none⟩=some (.iface 372 (.pointer (some (E i))))
 row:∀i,(1<=i/\i < 6)->∃c t,w.heap[(E i).block]?=some (.cells c t (0,0))
 ne:∀i j,(1<=i/\i < 6)->(1<=j/\j < 6)->i≠j->E i≠E j
theorem iI.below {w w':World} {E:Nat->Addr} (h:iI w E) (hb:aI w w'):iI w' E:=by
 refine⟨λi hi=>?_,λi hi=>?_,h.ne⟩
 .rw [hb.cell (p:=⟨i,0,none⟩) (World.block_lt_of_cell? _ _ (h.var i hi))];exact h.var i hi
 .obtain⟨c,t,hc⟩:=h.row i hi;refine⟨c,t,?_⟩;rw [hb.block _ ?_]
  .exact hc
  .rcases Nat.lt_or_ge (E i).block w.heap.size with h'|h'
   .exact h'
   .rw [Array.getElem?_eq_none h'] at hc;cases hc
abbrev tL (a:Addr):Value:= .iface 372 (.pointer (some a))
namespace Is
theorem typeOf (v:Value) (w:World):(Extern.ReflectliteType.typeOf #[.iface 372 v]).run Tryz.prog w= .ok (.iface 330 (.agg #[.pointer (some ⟨6,372,none⟩)])) w:=Aab
def cmp:Array Value->Sem Value:=Extern.ReflectliteType.method λt=>do Extern.Rtype.noPackHeld "Comparable" t;pure (.bool (<-typeInfo t).comparable)
theorem comparable (w:World):(cmp #[.agg #[.pointer (some ⟨6,372,none⟩)]]).run Tryz.prog w= .ok (.bool true) w:=Aab
theorem methodComparable (v:Value) (w:World):(Go.method 501 330 v "Comparable").run Tryz.prog w= .ok (350,v) w:=Aab
theorem comp:(Tryz.prog.info? 372).map (·.comparable)=some true:=Aab
theorem size:(Tryz.prog.info? 390).map (·.size)=some 1:=Aab
theorem noIs (v:Value) (xT:TypeId) (w:World):(Instr.typeAssert (.iface 372 v) xT 366 true).run Tryz.prog w= .ok (.tuple #[.nilIface,.bool false]) w:=run_typeAssert_lacksB Tryz.underlying366 Aab Aab v xT w
theorem noUnwrap (v:Value) (xT:TypeId) (w:World):(Instr.typeAssert (.iface 372 v) xT 338 true).run Tryz.prog w= .ok (.tuple #[.nilIface,.bool false]) w:=run_typeAssert_lacksB Tryz.underlying338 Aab Aab v xT w
theorem noUnwraps (v:Value) (xT:TypeId) (w:World):(Instr.typeAssert (.iface 372 v) xT 340 true).run Tryz.prog w= .ok (.tuple #[.nilIface,.bool false]) w:=run_typeAssert_lacksB Tryz.underlying340 Aab Aab v xT w
end Is
theorem afg (a:Addr) (w:World):Calls Tryz.prog 288 #[tL a,tL a] w λe w'=>e= .returned (.bool true)/\w=w':=by
 open ati in exact agl
theorem alV (b:Addr) (w:World):Calls Tryz.prog 288 #[.nilIface,tL b] w λe w'=>e= .returned (.bool false)/\w=w':=by
 have hn:=run_eql_iface_nil_left (P:=Tryz.prog) w 372 (.pointer (some b)) Tryz.underlying242;go_in
 go_wp2
 go_ret;exact⟨rfl,rfl⟩
theorem acw (a b:Addr) (ca cb:Array Value) (ta tb:TypeId) (w:World) (hne:a≠b) (ha:w.heap[a.block]?=some (.cells ca ta (0,0))) (hb:w.heap[b.block]?=some (.cells cb tb (0,0))):
 Calls Tryz.prog 288 #[tL a,tL b] w λe w'=>e= .returned (.bool false)/\w=w':=by
 open ath in exact agl
theorem aj6 {w:World} {E:Nat->Addr} (h:iI w E) (i j:Nat) (b:Bool) (hi:(1<=i/\i < 6)) (hj:(1<=j/\j < 6)) (hb:(i == j)=b):Calls Tryz.prog 288 #[tL (E i),tL (E j)] w λe w'=>e= .returned (.bool b)/\w=w':=by
 cases b with
 |true=>
  have e:i=j:=by simpa using hb
  subst e;exact afg (E i) w
 |false=>
  obtain⟨c1,t1,h1⟩:=h.row i hi;obtain⟨c2,t2,h2⟩:=h.row j hj;exact acw (E i) (E j) c1 c2 t1 t2 w (h.ne i j hi hj (by simpa using hb)) h1 h2
open Go.Shelf Go.Proofs
def uM:Go.Shelf.Ren:=⟨fun|17=>318|22=>311|29=>314|30=>315|36=>317|26=>310|33=>312|34=>313|38=>316|n=>n,fun|0=>0|3=>3|4=>4|9=>9|24=>350|40=>220|n=>n,λn=>n⟩
theorem uf:Lays2.n22 Tryz.prog uM:={
 mixed:=Aab
 f17:=Tryz.func318.trans (congrArg some Aab)
 f22:=Tryz.func311.trans (congrArg some Aab)
 f29:=Tryz.func314.trans (congrArg some Aab)
 f30:=Tryz.func315.trans (congrArg some Aab)
 f36:=Tryz.func317.trans (congrArg some Aab)
 t0:=Tryz.underlying0
 a0:=Tryz.isAgg0
 z0:=Tryz.sizeOf0
 v0:=Tryz.zeroValue0
 t3:=Tryz.underlying3
 a3:=Tryz.isAgg3
 z3:=Tryz.sizeOf3
 v3:=Tryz.zeroValue3
 t4:=Tryz.underlying4
 a4:=Tryz.isAgg4
 z4:=Tryz.sizeOf4
 v4:=Tryz.zeroValue4
 t9:=Tryz.underlying9
 a9:=Tryz.isAgg9
 z9:=Tryz.sizeOf9
 v9:=Tryz.zeroValue9
 t24:=Tryz.underlying350
 a24:=Tryz.isAgg350
 z24:=Tryz.sizeOf350
 v24:=Tryz.zeroValue350
 i9:=by kernel_rfl}
theorem Fe:Lays2.n26 Tryz.prog uM:={
 mixed:=Aab
 f26:=Tryz.func310.trans (congrArg some Aab)
 f33:=Tryz.func312.trans (congrArg some Aab)
 f34:=Tryz.func313.trans (congrArg some Aab)
 f38:=Tryz.func316.trans (congrArg some Aab)
 t0:=Tryz.underlying0
 a0:=Tryz.isAgg0
 z0:=Tryz.sizeOf0
 v0:=Tryz.zeroValue0
 t3:=Tryz.underlying3
 a3:=Tryz.isAgg3
 z3:=Tryz.sizeOf3
 v3:=Tryz.zeroValue3
 t4:=Tryz.underlying4
 a4:=Tryz.isAgg4
 z4:=Tryz.sizeOf4
 v4:=Tryz.zeroValue4
 t9:=Tryz.underlying9
 a9:=Tryz.isAgg9
 z9:=Tryz.sizeOf9
 v9:=Tryz.zeroValue9
 t24:=Tryz.underlying350
 a24:=Tryz.isAgg350
 z24:=Tryz.sizeOf350
 v24:=Tryz.zeroValue350
 t40:=Tryz.underlying220
 a40:=Tryz.isAgg220
 z40:=Tryz.sizeOf220
 v40:=Tryz.zeroValue220}
set_option maxHeartbeats 2000000
set_option maxRecDepth 100000
open Go.RowKit
theorem Hg {w:World} {E:Nat->Addr} (h:iI w E):Calls Tryz.prog 261 #[.nilIface] w λe w'=>e= .returned (.bool false)/\w=w':=by
 have v0:=h.var 1 Aaa;have v1:=h.var 2 Aaa;have v2:=h.var 3 Aaa;have v3:=h.var 4 Aaa;have v4:=h.var 5 Aaa;have HE:=Hq h;clear h;go_in
 go_wp2_with (go_at_call 288;refine(alV _ _).mono ?_;rintro e w1 ⟨rfl,rfl⟩)
 go_ret;exact⟨rfl,rfl⟩
theorem Lu {w:World} {E:Nat->Addr} (h:iI w E) (i:Nat) (hi:(1<=i/\i < 6)):Calls Tryz.prog 261 #[tL (E i)] w λe w'=>e= .returned (.bool true)/\w=w':=by
 have v0:=h.var 1 Aaa;have v1:=h.var 2 Aaa;have v2:=h.var 3 Aaa;have v3:=h.var 4 Aaa;have v4:=h.var 5 Aaa;have HE:=Hq h;clear h;have h5:i=1\/i=2\/i=3\/i=4\/i=5:=Aaa
 rcases h5 with rfl|rfl|rfl|rfl|rfl
 all_goals
  go_in
  go_wp2_with (go_at_call 288;first|(refine(aj6 HE _ _ true Aaa Aaa Aae).mono ?_;rintro e w1 ⟨rfl,rfl⟩)|(refine(aj6 HE _ _ false Aaa Aaa Aae).mono ?_;rintro e w1 ⟨rfl,rfl⟩))
  go_ret
  exact⟨rfl,rfl⟩
open Mth
theorem gJ {P:Program} (w:World) (base:Nat) (t ty e:TypeId) (i:TypeInfo) (z:Value) (size bytes:Nat) (ht:P.underlying t=some (.slice e)) (hi:P.info? e=some i) (hz:i.zero=some z)
 (hsize:i.size=size) (hby:i.bytes=bytes) (hzs:z.cells.size=size) (hsz:0 < size)
 (v:Value) (n:Nat) (xs:List Value) (hown:w.ownsRow base e size v n xs)
 (a:Addr) (m c:Nat) (news:List Value) (hl:news.length=m*size) (hnews:∀j u,news[j]?=some u->w.cell? (a.add j)=some u) (h1:∀u∈news,u.oneCell'=true)
 (h63:n+m<=maxLen) (hbytes:(n+m)*bytes<=140737488355328) (hbase:base<=w.heap.size):
 ∃v' w',(Builtin.append_ #[t,t] ty #[v,.slice (some a) m c]).run P w= .ok v' w'/\w'.ownsRow base e size v' (n+m) (xs++news)/\w.grownBy w' v.ownBlock/\
  ∀x,v'.ownBlock=some x->v.ownBlock=some x\/w.heap.size<=x:=by
 obtain⟨v',w',hr,ho,hg,_⟩:=run_append_own w base t ty e i z size bytes ht hi hz hsize hby hzs hsz v n xs hown a m c news hl hnews h1 h63 hbytes hbase;refine⟨v',w',hr,ho,hg,λx hx=>?_⟩;have hsmall:n+m<=9223372036854775807:=by simp only[maxLen] at h63;omega
 rcases hown.2 with⟨rfl,rfl⟩|⟨g,cap,cur,rfl,hbg,hgg,hnc,hcm,hcs,htake⟩
 .have hxs:xs=[]:=List.eq_nil_of_length_eq_zero (by simpa using hown.1);subst hxs;obtain⟨v2,w2,hr2,ho2,_,_⟩:=run_append_own w w.heap.size t ty e i z size bytes ht hi hz hsize hby hzs hsz (.slice none 0 0) 0 [] (World.ownsRow_nil w _ e size) a m c news hl hnews h1 h63 hbytes (Nat.le_refl _);have he:=hr.symm.trans hr2;simp only[Result.ok.injEq] at he;obtain⟨rfl,rfl⟩:=he;exact .inr (ho2.lt x hx).1
 .subst hsize;subst hby;by_cases hroom:n+m<=cap
  .have hfit:n*i.size+news.length<=cur.size:=by rw [hl,hcs,<-Nat.add_mul];exact Nat.mul_le_mul_right _ hroom
   have hr2:=run_append_room (P:=P) w t ty e i ht hi g n cap cur hgg a m c news hl hnews h1 hroom hfit;have he:=hr.symm.trans hr2;simp only[Result.ok.injEq] at he;obtain⟨rfl,_⟩:=he;exact .inl hx
  .have holds:∀j u,xs[j]?=some u->w.cell? ((⟨g,0,none⟩:Addr).add j)=some u:=hown.cells (g:=g) rfl;have hr2:=run_append_grow (P:=P) w t ty e i z ht hi hz ⟨g,0,none⟩ n cap xs hown.1 holds a m c news hl hnews Aaa Aaa (growslice_fits Aaa hbytes);have he:=hr.symm.trans hr2;simp only[Result.ok.injEq] at he;obtain⟨rfl,_⟩:=he;have:w.heap.size=x:=Abp
   exact .inr Aaa
theorem ou {P:Program} (w:World) {o:Oper} {a:Act} {K:Act->World->Prop} {Q:Exit->Act->World->Prop} (s x:Operand) (t:TypeId)
 (ho:o.op= .call {callee:= .builtin .append,args:=#[s,x],argTypes:=#[t,t]})
 (base:Nat) (e:TypeId) (i:TypeInfo) (z:Value) (size bytes:Nat) (ht:P.underlying t=some (.slice e)) (hi:P.info? e=some i) (hz:i.zero=some z)
 (hsize:i.size=size) (hby:i.bytes=bytes) (hzs:z.cells.size=size) (hsz:0 < size)
 (v:Value) (n:Nat) (xs:List Value) (hs:a.eval s=v) (hown:w.ownsRow base e size v n xs)
 (ad:Addr) (m c:Nat) (news:List Value) (hx:a.eval x= .slice (some ad) m c) (hl:news.length=m*size) (hnews:∀j u,news[j]?=some u->w.cell? (ad.add j)=some u) (h1:∀u∈news,u.oneCell'=true)
 (h63:n+m<=maxLen) (hbytes:(n+m)*bytes<=140737488355328) (hbase:base<=w.heap.size)
 (h:∀v' w',w'.ownsRow base e size v' (n+m) (xs++news)->w.grownBy w' v.ownBlock->(∀x,v'.ownBlock=some x->v.ownBlock=some x\/w.heap.size<=x)->K (a.put o.dst v') w'):o.wp P a w K Q:=by
 obtain⟨v',w',hr,h2,h3,h4⟩:=gJ w base t o.type e i z size bytes ht hi hz hsize hby hzs hsz v n xs hown ad m c news hl hnews h1 h63 hbytes hbase;exact Lib.wp_append_run w s x t t ho _ _ hs hx v' w' hr (h v' w' h2 h3 h4)
end Go.Proofs.YtohmklmkjmlpjaaGreatDoor
namespace Go.Proofs
open Go.Shelf YtohmklmkjmlpjaaGreatDoor
def Tryz.keysL_ren:Go.Shelf.Ren:=⟨fun|7=>269|10=>291|n=>n,fun|23=>291|26=>3|3=>125|28=>299|0=>0|27=>298|33=>89|4=>4|n=>n,fun|n=>n⟩
theorem Tryz.keysL:Go.Proofs.SlLaysZI.n7 Tryz.prog Tryz.keysL_ren:={
 mixed:=Aab
 f7:=⟨Tryz.f269.name,Aae,Tryz.func269.trans (congrArg some Aab)⟩
 f10:=⟨Tryz.f291.name,Aae,Tryz.func291.trans (congrArg some Aab)⟩
 t0:=Tryz.underlying0
 a0:=Tryz.isAgg0
 z0:=Tryz.sizeOf0
 v0:=Tryz.zeroValue0
 t4:=Tryz.underlying4
 a4:=Tryz.isAgg4
 z4:=Tryz.sizeOf4
 v4:=Tryz.zeroValue4
 t23:=Tryz.underlying291
 a23:=Tryz.isAgg291
 z23:=Tryz.sizeOf291
 v23:=Tryz.zeroValue291
 t26:=Tryz.underlying3
 a26:=Tryz.isAgg3
 z26:=Tryz.sizeOf3
 v26:=Tryz.zeroValue3
 t27:=Tryz.underlying298
 a27:=Tryz.isAgg298
 z27:=Tryz.sizeOf298
 v27:=Tryz.zeroValue298
 t28:=Tryz.underlying299
 a28:=Tryz.isAgg299
 z28:=Tryz.sizeOf299
 v28:=Tryz.zeroValue299
 t33:=Tryz.underlying89
 a33:=Tryz.isAgg89
 z33:=Tryz.sizeOf89
 v33:=Tryz.zeroValue89}
def Tryz.sortedL_ren:Go.Shelf.Ren:=⟨fun|6=>268|8=>290|9=>233|11=>307|13=>258|12=>257|23=>283|24=>284|14=>274|15=>275|16=>276|17=>277|18=>278|19=>279|20=>280|21=>281|22=>282|25=>295|26=>296|27=>297|28=>298|29=>299|30=>300|31=>308|n=>n,fun|26=>3|28=>299|24=>22|0=>0|3=>3|37=>220|48=>104|50=>322|4=>4|40=>314|39=>313|45=>232|5=>5|9=>9|51=>343|55=>347|57=>361|58=>157|33=>89|n=>n,fun|n=>n⟩
theorem Tryz.sortedL:Go.Proofs.SlLaysZI.n6 Tryz.prog Tryz.sortedL_ren:={
 mixed:=Aab
 f6:=⟨Tryz.f268.name,Aae,Tryz.func268.trans (congrArg some Aab)⟩
 f8:=⟨Tryz.f290.name,Aae,Tryz.func290.trans (congrArg some Aab)⟩
 f11:=⟨Tryz.f307.name,Aae,Tryz.func307.trans (congrArg some Aab)⟩
 t0:=Tryz.underlying0
 a0:=Tryz.isAgg0
 z0:=Tryz.sizeOf0
 v0:=Tryz.zeroValue0
 t24:=Tryz.underlying22
 a24:=Tryz.isAgg22
 z24:=Tryz.sizeOf22
 v24:=Tryz.zeroValue22
 t26:=Tryz.underlying3
 a26:=Tryz.isAgg3
 z26:=Tryz.sizeOf3
 v26:=Tryz.zeroValue3
 t28:=Tryz.underlying299
 a28:=Tryz.isAgg299
 z28:=Tryz.sizeOf299
 v28:=Tryz.zeroValue299
 i26:=by kernel_rfl}
end Go.Proofs
namespace Go.Proofs.YtohmklmkjmlpjaaGreatDoor
open Go.Proofs.Tryz
set_option maxRecDepth 100000
open Go.RowKit
theorem Sw (w:World):CallsD prog 164 #[] .returning w λe u' w'=>e= .returned (.tuple #[])/\u'= .returning/\w=w':=by
 refine callsD_of_wpS func164 rfl λc₀ cs hu=>?_
 apply wpS_seq
 apply wpS_region
 simp[wpOpsS,go_sem,recoverD,hu,ntmps164,Exit.thenS];refine wpS_of_wp ?_;show Code.wp _ _ _ {tmps:=#[.nilIface,undef,undef,.nilIface,undef,undef,undef,undef,undef,undef,undef,undef,undef,undef],defers:=[]} _
 have hnil:∀W:World,(binOp BinOp.eql 20 .nilIface .nilIface).run prog W= .ok (.bool true) W:=λ_=>by kernel_rfl
 go_wp2_with fail;cases c₀
 simp_all [bodyPostS,results,results164]
theorem Xh (p:Int) (older:List PanicEntry) (w:World):CallsD prog 164 #[] (.panicking ({v:= .iface 211 (.agg #[.int .i64 p]),recovered:=false}::older)) w λe u' w'=>e= .returned (.tuple #[])/\u'= .panicking ({v:= .iface 211 (.agg #[.int .i64 p]),recovered:=true}::older)/\aI w w':=by
 refine callsD_of_wpS func164 rfl λc₀ cs hu=>?_
 apply wpS_seq
 apply wpS_region
 simp[wpOpsS,go_sem,recoverD,hu,ntmps164,Exit.thenS];refine wpS_of_wp ?_;show Code.wp _ _ _ {tmps:=#[.iface 211 (.agg #[.int .i64 p]),undef,undef,.iface 211 (.agg #[.int .i64 p]),undef,undef,undef,undef,undef,undef,undef,undef,undef,undef],defers:=[]} _
 have hnil:∀W:World,(binOp BinOp.eql 20 (.iface 211 (.agg #[.int .i64 p])) .nilIface).run prog W= .ok (.bool false) W:=λ_=>by kernel_rfl
 have has:∀W:World,(Instr.typeAssert (.iface 211 (.agg #[.int .i64 p])) 20 211 true).run prog W= .ok (.tuple #[.agg #[.int .i64 p],.bool true]) W:=λ_=>by kernel_rfl
 go_wp2_with fail;have hb:Below w.heap.size w (w.alloc (.cells #[.int .i64 p] 211)):=(Below.refl _ _).alloc (Nat.le_refl _) _;cases c₀
 simp_all [bodyPostS,results,results164]
end Go.Proofs.YtohmklmkjmlpjaaGreatDoor
