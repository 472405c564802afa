/- Parts. -/
import Derived.Test.YtfmdndhliinhpaaGreatDoorRa32
namespace Go.Proofs.YtfmdndhliinhpaaGreatDoor
open Go.RowKit

theorem avD (a : Option Addr) (len cap : Nat) (w : World) (h : len ≤ 1048576) : Calls Tryz.prog 5 #[.slice a len cap] w fun e w' => e = .returned (.bool false) ∧ w = w' := by
  go_enter Tryz.func5, Tryz.ntmps5
  go_wp2
  go_ret
  exact ⟨by simp; omega, rfl⟩
theorem auu (a : Option Addr) (len cap : Nat) (w : World) (h : 1048576 < len) : Calls Tryz.prog 5 #[.slice a len cap] w fun e w' => e = .returned (.bool true) ∧ w = w' := by
  go_enter Tryz.func5, Tryz.ntmps5
  go_wp2
  go_ret
  exact ⟨by simp; omega, rfl⟩

/-- A slice of integers that came in: it is nil; or it leads to a row of 'cap' cells, the numbers 'zs', each fitting its kind. -/
def afs (k : IntKind) (w : World) (a : Option Addr) (len cap : Nat) (zs : List Int) : Prop :=
  (a = none ∧ len = 0 ∧ cap = 0 ∧ zs = []) ∨
  ∃ x, a = some x ∧ len ≤ cap ∧ cap ≤ maxLen ∧ zs.length = cap ∧ (∀ i, i < zs.length → w.cell? (x.add i) = some (.int k (zs.getD i 0))) ∧ ∀ n ∈ zs, (Lit.int k n).wf = true

theorem ase {w : World} {a : Option Addr} {len cap : Nat} {zs : List Int} (h : afs .u8 w a len cap zs) (hl : len ≤ 1048576) : EP w a len := by
  rcases h with ⟨_, rfl, _⟩ | ⟨x, rfl, h1, _, h3, hc, hw⟩
  · exact ⟨by omega, fun j hj => by omega⟩
  · refine ⟨hl, fun j hj => ?_⟩
    have hj' : j < zs.length := by omega
    obtain ⟨b, off, spot⟩ := x
    have hc0 := hc 0 (by omega)
    have hspot : spot = none := by simpa [Addr.add] using World.cell?_spot hc0
    subst hspot
    have hcj := hc j hj'
    have arD : w.cell? ⟨b, off + j, none⟩ = some (.int .u8 (zs.getD j 0)) := by
      by_cases h0 : j = 0
      · subst h0; simpa [Addr.add] using hcj
      · simpa [Addr.add, h0] using hcj
    have hbl : b < w.heap.size := by
      rcases Nat.lt_or_ge b w.heap.size with h' | h'
      · exact h'
      · simp [World.cell?, Array.getElem?_eq_none h'] at arD
    have hz := bounds_u8 (hw (zs.getD j 0) (by simp [List.getD, hj']))
    exact ⟨b, off, zs.getD j 0, rfl, hbl, hz.1, hz.2, arD⟩
set_option maxRecDepth 100000
theorem Mk:(Tryz.prog.globals[2]?).map (·.type)=some 147:=by kernel_rfl
theorem Yf:(Tryz.prog.globals[0]?).map (·.type)=some 147:=by kernel_rfl
theorem Mj:(Tryz.prog.globals[1]?).map (·.type)=some 147:=by kernel_rfl
theorem Ye:(Tryz.prog.globals[3]?).map (·.type)=some 147:=by kernel_rfl
theorem Uv:(Tryz.prog.globals[4]?).map (·.type)=some 147:=by kernel_rfl
theorem PZ:Tryz.prog.globalNamed "loop.example/g00264/impl.errNoPurses" =some 2:=by kernel_rfl
theorem adK:Tryz.prog.globalNamed "loop.example/g00264/impl.errNoKey" =some 0:=by kernel_rfl
theorem PY:Tryz.prog.globalNamed "loop.example/g00264/impl.errNoAmount" =some 1:=by kernel_rfl
theorem adJ:Tryz.prog.globalNamed "loop.example/g00264/impl.errFewer" =some 3:=by kernel_rfl
theorem Yd:Tryz.prog.globalNamed "loop.example/g00264/impl.errBeyond" =some 4:=by kernel_rfl
theorem Ul:Tryz.prog.cellsOf 247=1:=by kernel_rfl
theorem Um:Tryz.prog.cellsOf 9=1:=by kernel_rfl
theorem O7: "*" ++ "errors.errorString" = "*errors.errorString" :=by decide
theorem aeu (u:TypeId) (h:Tryz.prog.typeName? 3 u=some "*errors.errorString"):u=223:=
 typeName_ptr_named (nm:= "errors.errorString") (by rw [O7];kernel_rfl) (by kernel_rfl) (by decide) u (by rw [O7];exact h)
theorem J8 {n:String} {text:List UInt8} {r:List (String×DataW Unit)} {W:World} {g:Nat} (h:laidMet Tryz.prog ((n,.iface "*errors.errorString" (.ptr (.agg [.lit (.string text)])))::r) W)
 (hg:Tryz.prog.globalNamed n=some g) (ht:(Tryz.prog.globals[g]?).map (·.type)=some 147):
 ∃(a:Addr) (s:ByteArray) (c:Array Value) (t:TypeId),W.cell? ⟨g,0,none⟩=some (qw a)∧W.cell? a=some (.string s)∧s.data.toList=text∧W.heap[a.block]?=some (.cells c t (0,0)):=by
 obtain⟨ps,⟨g0',t0',cs0,f0,p0,q0,hg0',ht0',hv0,hd0,_,e0⟩,hnd,hrows⟩:=h;obtain rfl:=Option.some.inj (hg.symm.trans hg0');obtain rfl:=Option.some.inj (ht.symm.trans ht0');subst e0;obtain⟨l0⟩:=cs0
 have ok0:∀u v,l0=[.iface u v]→Value.okWide Tryz.prog W .any 0 u v:=fun u v e=>by
  subst e
  exact(hrows g 0 (by simp[MemPlace.row])).2 u v (by simpa using World.var?_cell hg0' hv0 0)
 obtain⟨a0,s0,rfl,hc0,hs0,hz0,rfl⟩:=errorString_of_trod Tryz.underlying147 aeu Tryz.underlying223 Tryz.underlying247 rfl rfl Tryz.underlying9 Ul Um hd0 ok0;obtain⟨c0,t0,hb0⟩:=(hrows a0.block a0.off (by simp[MemPlace.row])).1;exact⟨a0,s0,c0,t0,by simpa using World.var?_cell hg0' hv0 0,hc0,hs0,hb0⟩
theorem apart {W:World} {a b:Addr} {s t:ByteArray} (ha:W.cell? a=some (.string s)) (hb:W.cell? b=some (.string t)) (hne:s.data.toList≠t.data.toList):a≠b:=fun e=>by
 rw [e,hb] at ha;injection ha with ha
 injection ha with ha
 exact hne (by rw [ha])
theorem arv {W:World} (h:laidMet Tryz.prog Rows.fnOnceRow.laid W):∃E,iw W E:=by
 obtain⟨a2,s2,k2,t2,v2,c2,x2,b2⟩:=J8 h PZ Mk;have h1:=h.tail;obtain⟨a0,s0,k0,t0,v0,c0,x0,b0⟩:=J8 h1 adK Yf;have h2:=h1.tail;obtain⟨a1,s1,k1,t1,v1,c1,x1,b1⟩:=J8 h2 PY Mj;have h3:=h2.tail;obtain⟨a3,s3,k3,t3,v3,c3,x3,b3⟩:=J8 h3 adJ Ye;have h4:=h3.tail;obtain⟨a4,s4,k4,t4,v4,c4,x4,b4⟩:=J8 h4 Yd Uv;let E:Nat→Addr:=fun i=>if i=2 then a2 else if i=0 then a0 else if i=1 then a1 else if i=3 then a3 else a4
 let T:Nat→ByteArray:=fun i=>if i=2 then s2 else if i=0 then s0 else if i=1 then s1 else if i=3 then s3 else s4
 have hT:∀i,i < 5→W.cell? (E i)=some (.string (T i)):=fun i hi=>by
  have:i=0∨i=1∨i=2∨i=3∨i=4:=by omega
  rcases this with rfl|rfl|rfl|rfl|rfl
  all_goals first|exact c0|exact c1|exact c2|exact c3|exact c4
 refine⟨E,⟨fun i hi=>?_,fun i hi=>?_,fun i j hi hj hne=>apart (hT i hi) (hT j hj) ?_⟩⟩
 ·have:i=0∨i=1∨i=2∨i=3∨i=4:=by omega
  rcases this with rfl|rfl|rfl|rfl|rfl
  all_goals first|exact v0|exact v1|exact v2|exact v3|exact v4
 ·have:i=0∨i=1∨i=2∨i=3∨i=4:=by omega
  rcases this with rfl|rfl|rfl|rfl|rfl
  all_goals first|exact⟨_,_,b0⟩|exact⟨_,_,b1⟩|exact⟨_,_,b2⟩|exact⟨_,_,b3⟩|exact⟨_,_,b4⟩
 ·have hi':i=0∨i=1∨i=2∨i=3∨i=4:=by omega
  have hj':j=0∨j=1∨j=2∨j=3∨j=4:=by omega
  rcases hi' with rfl|rfl|rfl|rfl|rfl<;>rcases hj' with rfl|rfl|rfl|rfl|rfl
  all_goals first|exact absurd rfl hne|(simp[T,x0,x1,x2,x3,x4])
open Go
theorem Hf {H:Type} {enc:TypeId×Value→H} {P:Program} {w:World} {sp:Nat→Bool}:∀{ns:List String} {gs:List (DataW H)} {ps:List MemPlace},DataW.TrodVars enc P w sp ns gs ps→gs.length=ns.length
 |[],[],_,_=>rfl
 |[],_::_,_,h=>h.elim
 |_::_,[],_,h=>h.elim
 |_::ns,_::ds,_,h=>by
  obtain⟨_,_,_,_,_,_,_,_,_,_,hs,_⟩:=h
  have:=Hf hs
  simp[this]
theorem aex {α:Type} {gs:List α} (h:gs.length=5):∃a b c d e,gs=[a,b,c,d,e]:=by
 match gs,h with
 |[a,b,c,d,e],_=>exact⟨a,b,c,d,e,rfl⟩
end Go.Proofs.YtfmdndhliinhpaaGreatDoor
