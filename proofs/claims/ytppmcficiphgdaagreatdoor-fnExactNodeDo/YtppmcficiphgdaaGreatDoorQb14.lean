/- Parts. -/
import Derived.Test.YtppmcficiphgdaaGreatDoorQa10
import Derived.Stop.LaidTwo
import Derived.LaidLaws
import Derived.LaidHandle
import Derived.OpenVars
namespace Go.Proofs.YtppmcficiphgdaaGreatDoor
set_option maxRecDepth 100000
open Go.RowKit
theorem gNoPursesT:(Tryz.prog.globals[2]?).map (·.type)=some 230:=by kernel_rfl
theorem gNoKeyT:(Tryz.prog.globals[0]?).map (·.type)=some 230:=by kernel_rfl
theorem gNoAmountT:(Tryz.prog.globals[1]?).map (·.type)=some 230:=by kernel_rfl
theorem gFewerT:(Tryz.prog.globals[3]?).map (·.type)=some 230:=by kernel_rfl
theorem gBeyondT:(Tryz.prog.globals[4]?).map (·.type)=some 230:=by kernel_rfl
theorem gNoPurses:Tryz.prog.globalNamed "loop.example/g00264/impl.errNoPurses" =some 2:=by kernel_rfl
theorem gNoKey:Tryz.prog.globalNamed "loop.example/g00264/impl.errNoKey" =some 0:=by kernel_rfl
theorem gNoAmount:Tryz.prog.globalNamed "loop.example/g00264/impl.errNoAmount" =some 1:=by kernel_rfl
theorem gFewer:Tryz.prog.globalNamed "loop.example/g00264/impl.errFewer" =some 3:=by kernel_rfl
theorem gBeyond:Tryz.prog.globalNamed "loop.example/g00264/impl.errBeyond" =some 4:=by kernel_rfl
theorem cellsErr:Tryz.prog.cellsOf 360=1:=by kernel_rfl
theorem cellsStr:Tryz.prog.cellsOf 9=1:=by kernel_rfl
theorem starErr: "*" ++ "errors.errorString" = "*errors.errorString" :=by decide
theorem rowErr (u:TypeId) (h:Tryz.prog.typeName? 3 u=some "*errors.errorString"):u=342:=
 typeName_ptr_named (nm:= "errors.errorString") (by rw [starErr];kernel_rfl) (by kernel_rfl) (by decide) u (by rw [starErr];exact h)
theorem sent1 {n:String} {text:List UInt8} {r:List (String×DataW Unit)} {W:World} {g:Nat} (h:laidMet Tryz.prog ((n,.iface "*errors.errorString" (.ptr (.agg [.lit (.string text)])))::r) W)
 (hg:Tryz.prog.globalNamed n=some g) (ht:(Tryz.prog.globals[g]?).map (·.type)=some 230):
 ∃(a:Addr) (s:ByteArray) (c:Array Value) (t:TypeId),W.cell? ⟨g,0,none⟩=some (errV a)∧W.cell? a=some (.string s)∧s.data.toList=text∧W.heap[a.block]?=some (.cells c t (0,0)):=by
 obtain⟨ps,⟨g0',t0',cs0,f0,p0,q0,hg0',ht0',hv0,hd0,_,e0⟩,hnd,hrows⟩:=h;obtain rfl:=Option.some.inj (hg.symm.trans hg0');obtain rfl:=Option.some.inj (ht.symm.trans ht0');subst e0;obtain⟨l0⟩:=cs0
 have ok0:∀u v,l0=[.iface u v]→Value.okWide Tryz.prog W .any 0 u v:=fun u v e=>by
  subst e
  exact(hrows g 0 (by simp[MemPlace.row])).2 u v (by simpa using World.var?_cell hg0' hv0 0)
 obtain⟨a0,s0,rfl,hc0,hs0,hz0,rfl⟩:=errorString_of_trod Tryz.underlying230 rowErr Tryz.underlying342 Tryz.underlying360 rfl rfl Tryz.underlying9 cellsErr cellsStr hd0 ok0;obtain⟨c0,t0,hb0⟩:=(hrows a0.block a0.off (by simp[MemPlace.row])).1;exact⟨a0,s0,c0,t0,by simpa using World.var?_cell hg0' hv0 0,hc0,hs0,hb0⟩
theorem apart {W:World} {a b:Addr} {s t:ByteArray} (ha:W.cell? a=some (.string s)) (hb:W.cell? b=some (.string t)) (hne:s.data.toList≠t.data.toList):a≠b:=fun e=>by
 rw [e,hb] at ha;injection ha with ha
 injection ha with ha
 exact hne (by rw [ha])
theorem errsLaid {W:World} (h:laidMet Tryz.prog Rows.fnExactNodeDoRow.laid W):∃E,Errs W E:=by
 obtain⟨a2,s2,k2,t2,v2,c2,x2,b2⟩:=sent1 h gNoPurses gNoPursesT;have h1:=h.tail;obtain⟨a0,s0,k0,t0,v0,c0,x0,b0⟩:=sent1 h1 gNoKey gNoKeyT;have h2:=h1.tail;obtain⟨a1,s1,k1,t1,v1,c1,x1,b1⟩:=sent1 h2 gNoAmount gNoAmountT;have h3:=h2.tail;obtain⟨a3,s3,k3,t3,v3,c3,x3,b3⟩:=sent1 h3 gFewer gFewerT;have h4:=h3.tail;obtain⟨a4,s4,k4,t4,v4,c4,x4,b4⟩:=sent1 h4 gBeyond gBeyondT;let E:Nat→Addr:=fun i=>if i=2 then a2 else if i=0 then a0 else if i=1 then a1 else if i=3 then a3 else a4
 let T:Nat→ByteArray:=fun i=>if i=2 then s2 else if i=0 then s0 else if i=1 then s1 else if i=3 then s3 else s4
 have hT:∀i,i < 5→W.cell? (E i)=some (.string (T i)):=fun i hi=>by
  have:i=0∨i=1∨i=2∨i=3∨i=4:=by omega
  rcases this with rfl|rfl|rfl|rfl|rfl
  all_goals first|exact c0|exact c1|exact c2|exact c3|exact c4
 refine⟨E,⟨fun i hi=>?_,fun i hi=>?_,fun i j hi hj hne=>apart (hT i hi) (hT j hj) ?_⟩⟩
 ·have:i=0∨i=1∨i=2∨i=3∨i=4:=by omega
  rcases this with rfl|rfl|rfl|rfl|rfl
  all_goals first|exact v0|exact v1|exact v2|exact v3|exact v4
 ·have:i=0∨i=1∨i=2∨i=3∨i=4:=by omega
  rcases this with rfl|rfl|rfl|rfl|rfl
  all_goals first|exact⟨_,_,b0⟩|exact⟨_,_,b1⟩|exact⟨_,_,b2⟩|exact⟨_,_,b3⟩|exact⟨_,_,b4⟩
 ·have hi':i=0∨i=1∨i=2∨i=3∨i=4:=by omega
  have hj':j=0∨j=1∨j=2∨j=3∨j=4:=by omega
  rcases hi' with rfl|rfl|rfl|rfl|rfl<;>rcases hj' with rfl|rfl|rfl|rfl|rfl
  all_goals first|exact absurd rfl hne|(simp[T,x0,x1,x2,x3,x4])
open Go
theorem trodVars_len {H:Type} {enc:TypeId×Value→H} {P:Program} {w:World} {sp:Nat→Bool}:∀{ns:List String} {gs:List (DataW H)} {ps:List MemPlace},DataW.TrodVars enc P w sp ns gs ps→gs.length=ns.length
 |[],[],_,_=>rfl
 |[],_::_,_,h=>h.elim
 |_::_,[],_,h=>h.elim
 |_::ns,_::ds,_,h=>by
  obtain⟨_,_,_,_,_,_,_,_,_,_,hs,_⟩:=h
  have:=trodVars_len hs
  simp[this]
theorem vars_list5 {α:Type} {gs:List α} (h:gs.length=5):∃a b c d e,gs=[a,b,c,d,e]:=by
 match gs,h with
 |[a,b,c,d,e],_=>exact⟨a,b,c,d,e,rfl⟩
end Go.Proofs.YtppmcficiphgdaaGreatDoor
