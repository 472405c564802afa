/- Parts. -/
import Derived.Test.YtbolgdleijjgfaaGreatDoorRf3
namespace Go.Proofs.YtbolgdleijjgfaaGreatDoor
open Go.Proofs.Tryz
set_option maxHeartbeats 2000000
open Go.RowKit
section
variable {P:Program} {ops:Array Oper} {Q:Exit->Act->World->Prop} {md:Region.Mode} {E:Nat}
abbrev fV (P:Program) (md:Region.Mode) (ops:Array Oper) (Q:Exit->Act->World->Prop) (E:Nat):Nat->Array Bool->Act->World->Prop:=iP P md ops Q E Ge
theorem fK (i n:Nat) {oi:Oper} {fuel:Nat} {listed:Array Bool} {a:Act} {w:World} (hi:ops[i]?=some oi) (hs:Region.noSelect ops=true) (hf:Region.free md ops listed i=true) (hr:(Region.ready md ops listed).contains i=true)
 (hcl:qj md ops listed=true) (hE:(Wt md ops E n).contains i=true)
 (hQ:∀v c a w,Q (.panic c) (a.put oi.dst v) w->Q (.panic c) a w)
 (h:∀K:Act->Prop,(∀a',fV P md ops Q E fuel (listed.setIfInBounds i true) a' w->K a')->if Region.wanted oi (yielded ops a.tmps) then∃v,(∀p:Regrown,Oper.quietUpon P (Ge (Gr w p)) (Gr w p) v ((execOp a.eval oi).run P (Gr w p)))/\K (a.put oi.dst v) else K (a.put oi.dst undef)):
 fV P md ops Q E (fuel+1) listed a w:=lZ i n Xf (FI w) h hi hs hf hr (by rw [hcl,hE];simp) hQ
theorem dP (i:Nat) {oi:Oper} {fuel:Nat} {listed:Array Bool} {a:Act} {w:World} (hi:ops[i]?=some oi) (hr:Region.ready md ops listed=[i]) (hw:Region.wanted oi (yielded ops a.tmps)=true)
 (h:∀x,Ge w x->oi.wp P a x (λa' y=>Ge x y/\fV P md ops Q E fuel (listed.setIfInBounds i true) a' y) Q) (Mf:i≠E:=by decide):fV P md ops Q E (fuel+1) listed a w:=vO i hi hr hw Mf h
theorem zD (i j:Nat) {oi oj:Oper} {fuel:Nat} {listed:Array Bool} {a:Act} {w:World} (hi:ops[i]?=some oi) (hj:ops[j]?=some oj) (hr:Region.ready md ops listed=[i,j]) (hwi:Region.wanted oi (yielded ops a.tmps)=true) (hwj:Region.wanted oj (yielded ops a.tmps)=true)
 (h1:∀x,Ge w x->oi.wp P a x (λa' y=>Ge x y/\fV P md ops Q E fuel (listed.setIfInBounds i true) a' y) Q)
 (h2:∀x,Ge w x->oj.wp P a x (λa' y=>Ge x y/\fV P md ops Q E fuel (listed.setIfInBounds j true) a' y) Q) (Mf:i≠E:=by decide) (hjE:j≠E:=by decide):fV P md ops Q E (fuel+1) listed a w:=zH i j hi hj hr hwi hwj Mf h1 λx hx=>⟨λ_=>h2 x hx,λe=>absurd e hjE⟩
theorem aS {fuel:Nat} {listed:Array Bool} {a:Act} {w:World} (hr:Region.ready md ops listed=[E]) (h:∀x,Ge w x->wpAny P md ops Q (fuel+1) listed a x):fV P md ops Q E (fuel+1) listed a w:=vN hr h
theorem aI (i:Nat) {oi:Oper} {fuel:Nat} {listed:Array Bool} {a:Act} {w:World} (hi:ops[i]?=some oi) (hr:Region.ready md ops listed=[i]) (hw:Region.wanted oi (yielded ops a.tmps)=true)
 (h:oi.wp P a w (wpAny P md ops Q fuel (listed.setIfInBounds i true)) Q):wpAny P md ops Q (fuel+1) listed a w:=by
 refine⟨λh=>(by rw [hr] at h;cases h),λj hj=>?_⟩;rw [hr] at hj;obtain rfl:j=i:=Abd
 unfold wpOp;simp only[hi];rw [aFc hw];exact .inl h
theorem wpAny_done {listed:Array Bool} {a:Act} {w:World} (hr:Region.ready md ops listed=[]) (h:Q .normal a w):wpAny P md ops Q 0 listed a w:=⟨hr,h⟩
def xB (P:Program) (md:Region.Mode) (ops:Array Oper) (Q:Exit->Act->World->Prop) (fuel:Nat) (listed:Array Bool) (a:Act) (w:World):Prop:=∀x,Ge w x->wpAny P md ops Q fuel listed a x
theorem DR (i:Nat) {oi:Oper} {fuel:Nat} {listed:Array Bool} {a:Act} {w:World} (hi:ops[i]?=some oi) (hs:Region.noSelect ops=true) (hf:Region.free md ops listed i=true) (hr:(Region.ready md ops listed).contains i=true)
 (hQ:∀v c a w,Q (.panic c) (a.put oi.dst v) w->Q (.panic c) a w)
 (h:∀K:Act->Prop,(∀a',xB P md ops Q fuel (listed.setIfInBounds i true) a' w->K a')->if Region.wanted oi (yielded ops a.tmps) then∃v,(∀x:World,(execOp a.eval oi).run P x= .ok (.value v) x)/\K (a.put oi.dst v) else K (a.put oi.dst undef)):
 xB P md ops Q (fuel+1) listed a w:=by
 have h':=h _ λ_ h=>h
 intro x hx;by_cases hw:Region.wanted oi (yielded ops a.tmps)=true
 .rw [aFc hw] at h';obtain⟨v,hv,hk⟩:=h';exact wpAny_take hi hs hf hr (hQ v) (.inl ⟨hw,hv⟩) (hk x hx)
 .rw [aE2 hw] at h';exact wpAny_take hi hs hf hr (hQ undef) (.inr ⟨by simpa using hw,rfl⟩) (h' x hx)
theorem sG (E:Nat) {fuel:Nat} {listed:Array Bool} {a:Act} {w:World} (h:fV P md ops Q E fuel listed a w):xB P md ops Q fuel listed a w:=λ_ hx=>sW _ _ _ _ (xC hx h)
theorem mY {id:Nat} {a:Act} {w:World} (hm:P.follows .mixedOrders=true) (h:xB P .any ops Q ops.size (Array.replicate ops.size false) a w):(Code.region id ops true).wp P Q a w:=
 wp_region_any hm (h {w with drawn:=w.drawn+1} ⟨rfl,rfl,rfl,aER _,λ_ _=>rfl⟩)
theorem bC (E:Nat) {id:Nat} {a:Act} {w:World} (hm:P.follows .mixedOrders=true) (h:fV P .any ops Q E ops.size (Array.replicate ops.size false) a w):(Code.region id ops true).wp P Q a w:=nu E hm h
end
section
variable {P:Program} {ops:Array Oper} {Q:Exit->Act->World->Prop} {md:Region.Mode} {E:Nat}
theorem Vo (i:Nat) {oi oj:Oper} {fuel:Nat} {listed:Array Bool} {a:Act} {w:World} (hi:ops[i]?=some oi) (hj:ops[E]?=some oj) (hr:Region.ready md ops listed=[i,E]) (hwi:Region.wanted oi (yielded ops a.tmps)=true) (hwj:Region.wanted oj (yielded ops a.tmps)=true) (Mf:i≠E)
 (h1:∀x,Ge w x->oi.wp P a x (λa' y=>Ge x y/\fV P md ops Q E fuel (listed.setIfInBounds i true) a' y) Q)
 (h2:∀x,Ge w x->oj.wp P a x (wpAny P md ops Q fuel (listed.setIfInBounds E true)) Q):fV P md ops Q E (fuel+1) listed a w:=zH i E hi hj hr hwi hwj Mf h1 λx hx=>⟨λe=>absurd rfl e,λ_=>h2 x hx⟩
end
section
variable {P:Program} {ops:Array Oper} {Q:Exit->Act->World->Prop} {md:Region.Mode} {E b:Nat}
structure RB (b:Nat) (w w':World):Prop where
 os:w'.os=w.os
 tape:w'.tape=w.tape
 output:w'.output=w.output
 size:w.heap.size<=w'.heap.size
 block:∀k,k < w.heap.size->k < b->w'.heap[k]?=w.heap[k]?
theorem QS (b:Nat):XI (RB b):=⟨λh=>⟨h.os,h.tape,h.output,h.size,λk hk _=>h.block k hk⟩,λh k=>⟨k.os.trans h.os,k.tape.trans h.tape,k.output.trans h.output,aEU h.size k.size,λi hi hb=>(k.block i (aEZ hi h.size) hb).trans (h.block i hi hb)⟩⟩
theorem RB.of {b:Nat} {w w':World} (h:Below b w w'):RB b w w':=⟨h.os,h.tape,h.output,h.size,λk _ hk=>h.block k hk⟩
abbrev jH (P:Program) (md:Region.Mode) (ops:Array Oper) (Q:Exit->Act->World->Prop) (E b:Nat):Nat->Array Bool->Act->World->Prop:=iP P md ops Q E (RB b)
structure But (R:World->World->Prop) (w:World) where
 x:World
 h:R w x
theorem TA {R:World->World->Prop} (w:World):∀x,R w x->∃p:But R w,x=p.x:=λx hx=>⟨⟨x,hx⟩,rfl⟩
abbrev Und (b:Nat) (w:World):=But (RB b) w
theorem cZ {b:Nat} {w:World} {g i:Nat} {v:Value} (hg:g < b) (h:w.cell? ⟨g,i,none⟩=some v):∀p:Und b w,p.x.cell? ⟨g,i,none⟩=some v:=λp=>(aFw (w:=w) (p.h.block g (aFT w _ h) hg)).trans h
theorem ajk (i n:Nat) {oi:Oper} {fuel:Nat} {listed:Array Bool} {a:Act} {w:World} (_hb:b<=w.heap.size) (hi:ops[i]?=some oi) (hs:Region.noSelect ops=true) (hf:Region.free md ops listed i=true) (hr:(Region.ready md ops listed).contains i=true)
 (hcl:qj md ops listed=true) (hE:(Wt md ops E n).contains i=true)
 (hQ:∀v c a w,Q (.panic c) (a.put oi.dst v) w->Q (.panic c) a w)
 (h:∀K:Act->Prop,(∀a',jH P md ops Q E b fuel (listed.setIfInBounds i true) a' w->K a')->if Region.wanted oi (yielded ops a.tmps) then∃v,(∀p:Und b w,Oper.quietUpon P (Ge p.x) p.x v ((execOp a.eval oi).run P p.x))/\K (a.put oi.dst v) else K (a.put oi.dst undef)):
 jH P md ops Q E b (fuel+1) listed a w:=lZ i n (QS b) (TA w) h hi hs hf hr (by rw [hcl,hE];simp) hQ
theorem jk (i:Nat) {oi:Oper} {fuel:Nat} {listed:Array Bool} {a:Act} {w:World} (hi:ops[i]?=some oi) (hr:Region.ready md ops listed=[i]) (hw:Region.wanted oi (yielded ops a.tmps)=true) (Mf:i≠E)
 (h:∀x,Ge w x->oi.wp P a x (λa' y=>Below b x y/\jH P md ops Q E b fuel (listed.setIfInBounds i true) a' y) Q):jH P md ops Q E b (fuel+1) listed a w:=vO i hi hr hw Mf λx hx=>Oper.wp_mono (λ_ _ h=>⟨.of h.1,h.2⟩) (h x hx)
theorem vL (i j:Nat) {oi oj:Oper} {fuel:Nat} {listed:Array Bool} {a:Act} {w:World} (hi:ops[i]?=some oi) (hj:ops[j]?=some oj) (hr:Region.ready md ops listed=[i,j]) (hwi:Region.wanted oi (yielded ops a.tmps)=true) (hwj:Region.wanted oj (yielded ops a.tmps)=true) (Mf:i≠E) (hjE:j≠E)
 (h1:∀x,Ge w x->oi.wp P a x (λa' y=>Below b x y/\jH P md ops Q E b fuel (listed.setIfInBounds i true) a' y) Q)
 (h2:∀x,Ge w x->oj.wp P a x (λa' y=>Below b x y/\jH P md ops Q E b fuel (listed.setIfInBounds j true) a' y) Q):jH P md ops Q E b (fuel+1) listed a w:=zH i j hi hj hr hwi hwj Mf (λx hx=>Oper.wp_mono (λ_ _ h=>⟨.of h.1,h.2⟩) (h1 x hx)) λx hx=>⟨λ_=>Oper.wp_mono (λ_ _ h=>⟨.of h.1,h.2⟩) (h2 x hx),λe=>absurd e hjE⟩
theorem qy {fuel:Nat} {listed:Array Bool} {a:Act} {w:World} (hr:Region.ready md ops listed=[E]) (h:∀x,Ge w x->wpAny P md ops Q (fuel+1) listed a x):jH P md ops Q E b (fuel+1) listed a w:=vN hr h
theorem mZ (E b:Nat) {id:Nat} {a:Act} {w:World} (hm:P.follows .mixedOrders=true) (h:jH P .any ops Q E b ops.size (Array.replicate ops.size false) a w):(Code.region id ops true).wp P Q a w:=nu E hm h
end
section
variable {P:Program} {ops:Array Oper} {Q:Exit->Act->World->Prop} {md:Region.Mode} {E:Nat} {R:World->World->Prop} {is:List Nat} {i:Nat} {oi:Oper} {fuel:Nat} {listed:Array Bool} {a:Act} {w:World}
def TkL (_:List Nat) (p:Prop):Prop:=p
theorem tk (is:List Nat) {p:Prop} (h:TkL is p):p:=h
theorem jh {p:Prop} (h:p):TkL [] p:=h
theorem lW (h:∀K:Act->Prop,(∀a',TkL is (iP P md ops Q E Ge fuel (listed.setIfInBounds i true) a' w)->K a')->if Region.wanted oi (yielded ops a.tmps) then∃v,(∀p:Regrown,Oper.quietUpon P (Ge (Gr w p)) (Gr w p) v ((execOp a.eval oi).run P (Gr w p)))/\K (a.put oi.dst v) else K (a.put oi.dst undef)) (hi:ops[i]?=some oi:=by rfl) (hs:Region.noSelect ops=true:=by kernel_rfl) (hf:Region.free md ops listed i=true:=by kernel_rfl) (hr:(Region.ready md ops listed).contains i=true:=by kernel_rfl) (hE:(decide (ops.size<=E)||(qj md ops listed&&(Wt md ops E 20).contains i))=true:=by kernel_rfl) (hQ:∀v c a w,Q (.panic c) (a.put oi.dst v) w->Q (.panic c) a w:=by exact λ_ _ _ _ h=>h):TkL (i::is) (iP P md ops Q E Ge (fuel+1) listed a w):=
 lZ i 20 Xf (FI w) h hi hs hf hr hE hQ
theorem EI (n:Nat) (hR:XI R) (h:∀K:Act->Prop,(∀a',TkL is (iP P md ops Q E R fuel (listed.setIfInBounds i true) a' w)->K a')->if Region.wanted oi (yielded ops a.tmps) then∃v,(∀p:But R w,Oper.quietUpon P (Ge p.x) p.x v ((execOp a.eval oi).run P p.x))/\K (a.put oi.dst v) else K (a.put oi.dst undef)) (hi:ops[i]?=some oi:=by rfl) (hs:Region.noSelect ops=true:=by kernel_rfl) (hf:Region.free md ops listed i=true:=by kernel_rfl) (hr:(Region.ready md ops listed).contains i=true:=by kernel_rfl) (hE:(decide (ops.size<=E)||(qj md ops listed&&(Wt md ops E n).contains i))=true:=by kernel_rfl) (hQ:∀v c a w,Q (.panic c) (a.put oi.dst v) w->Q (.panic c) a w:=by exact λ_ _ _ _ h=>h):TkL (i::is) (iP P md ops Q E R (fuel+1) listed a w):=
 lZ i n hR (TA w) h hi hs hf hr hE hQ
end
open Go.RowKit Go.Extern.Stop Go.Stop Go.Extern
theorem aki (t:Value) (w:World):
 Calls prog 268 #[.nilIface,t] w λe w'=>e= .returned (.bool false)/\w=w':=by
 go_in
 go_wp2
 go_ret;exact⟨rfl,rfl⟩
namespace As
theorem valueOfPtr (t:Addr) (w:World):(ReflectliteValue.unpack (.iface 291 (.pointer (some t)))).run Tryz.prog w
 = .ok (.agg #[.pointer (some ⟨6,291,none⟩),.pointer (some ⟨w.heap.size,0,none⟩),.int .u64 150]) (w.alloc (.cells #[.pointer (some t)] 291)):=Aab
theorem typePtr (a:Addr) (w:World):(ReflectliteValue.methodAny (ReflectliteValue.valueError "reflectlite.Value.Type" 0) (λt _ _ _=>ReflectliteType.toType t) #[.agg #[.pointer (some ⟨6,291,none⟩),.pointer (some a),.int .u64 150]]).run Tryz.prog w
 = .ok (.iface 340 (.agg #[.pointer (some ⟨6,291,none⟩)])) w:=Aab
theorem methodKind (h:Value) (w:World):(Go.method 503 340 (.agg #[h]) "Kind").run Tryz.prog w= .ok (334,h) w:=Aab
theorem methodElem (h:Value) (w:World):(Go.method 503 340 (.agg #[h]) "Elem").run Tryz.prog w= .ok (352,.agg #[h]) w:=Aab
theorem methodImplements (h:Value) (w:World):(Go.method 503 340 (.agg #[h]) "Implements").run Tryz.prog w= .ok (353,.agg #[h]) w:=Aab
theorem methodAssignableTo (h:Value) (w:World):(Go.method 503 340 (.agg #[h]) "AssignableTo").run Tryz.prog w= .ok (350,.agg #[h]) w:=Aab
theorem methodUnwrap (h:Value) (w:World):(Go.method 503 287 (.agg #[h]) "Unwrap").run Tryz.prog w= .ok (340,.agg #[h]) w:=Aab
theorem kindPtr (w:World):((ReflectliteType.abiMethod λt=>(λa:Nat=>Value.int IntKind.u8 (a:Int)) <$> Rtype.kind t) #[.pointer (some ⟨6,291,none⟩)]).run Tryz.prog w= .ok (.int .u8 22) w:=Aab
theorem kindStruct (w:World):((ReflectliteType.abiMethod λt=>(λa:Nat=>Value.int IntKind.u8 (a:Int)) <$> Rtype.kind t) #[.pointer (some ⟨6,289,none⟩)]).run Tryz.prog w= .ok (.int .u8 25) w:=Aab
theorem rlm (z:Sem Value) (f:TypeId->Addr->Nat->Nat->Sem Value) (v:Value):
 ReflectliteValue.method z f #[v]=(do match<-ReflectliteValue.parts v with|none=>z|some (t,a,fl)=>f t a fl (fl % 32)):=rfl
theorem QF (a:Addr) (w:World):(ReflectliteValue.parts (.agg #[.pointer (some ⟨6,291,none⟩),.pointer (some a),.int .u64 150])).run Tryz.prog w= .ok (some (291,a,150)) w:=Aab
theorem isNil (a p:Addr) (W:World) (ha:W.cell? a=some (.pointer (some p))):
 (ReflectliteValue.method (ReflectliteValue.valueError "reflectlite.Value.IsNil" 0) ReflectliteValue.isNil #[.agg #[.pointer (some ⟨6,291,none⟩),.pointer (some a),.int .u64 150]]).run Tryz.prog W= .ok (.bool false) W:=by
 rw [rlm];simp only[Sem.run_bind,QF,Result.andThen];simp[ReflectliteValue.isNil,loadVar,isAgg,underlying,Tryz.underlying291,ha,Result.andThen]
theorem elemType (w:World):(ReflectliteType.method ReflectliteType.elem #[.agg #[.pointer (some ⟨6,291,none⟩)]]).run Tryz.prog w= .ok (.iface 340 (.agg #[.pointer (some ⟨6,289,none⟩)])) w:=Aab
theorem implements (w:World):(ReflectliteType.relation "Implements" ReflectliteType.implements_ #[.agg #[.pointer (some ⟨6,289,none⟩)],.iface 340 (.agg #[.pointer (some ⟨6,247,none⟩)])]).run Tryz.prog w= .ok (.bool true) w:=Aab
theorem typeOfNo (v:Value) (w:World):(ReflectliteType.typeOf #[.iface 289 v]).run Tryz.prog w= .ok (.iface 340 (.agg #[.pointer (some ⟨6,289,none⟩)])) w:=Aab
theorem typeOfUnread (v:Value) (w:World):(ReflectliteType.typeOf #[.iface 287 v]).run Tryz.prog w= .ok (.iface 340 (.agg #[.pointer (some ⟨6,287,none⟩)])) w:=Aab
theorem assignNo (w:World):(ReflectliteType.relation "AssignableTo" ReflectliteType.assignableTo #[.agg #[.pointer (some ⟨6,289,none⟩)],.iface 340 (.agg #[.pointer (some ⟨6,289,none⟩)])]).run Tryz.prog w= .ok (.bool true) w:=Aab
theorem assignUnread (w:World):(ReflectliteType.relation "AssignableTo" ReflectliteType.assignableTo #[.agg #[.pointer (some ⟨6,287,none⟩)],.iface 340 (.agg #[.pointer (some ⟨6,289,none⟩)])]).run Tryz.prog w= .ok (.bool false) w:=Aab
theorem valueOfNo (p:Int) (w:World):(ReflectliteValue.unpack (.iface 289 (.agg #[.int .i64 p]))).run Tryz.prog w
 = .ok (.agg #[.pointer (some ⟨6,289,none⟩),.pointer (some ⟨w.heap.size,0,none⟩),.int .u64 153]) (w.alloc (.cells #[.int .i64 p] 289)):=Aab
theorem elemOf (w:World):(Rtype.elem? 291).run Tryz.prog w= .ok (some 289) w:=Aab
theorem aCZ (p:Addr) (w:World):(ReflectliteValue.mk 289 p ReflectliteValue.flagAddr).run Tryz.prog w= .ok (.agg #[.pointer (some ⟨6,289,none⟩),.pointer (some p),.int .u64 409]) w:=Aab
theorem elemV (a p:Addr) (W:World) (ha:W.cell? a=some (.pointer (some p))):
 (ReflectliteValue.method (ReflectliteValue.valueError "reflectlite.Value.Elem" 0) ReflectliteValue.elem #[.agg #[.pointer (some ⟨6,291,none⟩),.pointer (some a),.int .u64 150]]).run Tryz.prog W
  = .ok (.agg #[.pointer (some ⟨6,289,none⟩),.pointer (some p),.int .u64 409]) W:=by
 rw [rlm];simp only[Sem.run_bind,QF,Result.andThen];simp[ReflectliteValue.elem,loadVar,isAgg,underlying,Tryz.underlying291,ha,Result.andThen,elemOf,aCZ]
theorem ac9 (a:Addr) (w:World):(ReflectliteValue.parts (.agg #[.pointer (some ⟨6,289,none⟩),.pointer (some a),.int .u64 409])).run Tryz.prog w= .ok (some (289,a,409)) w:=Aab
theorem afB (a:Addr) (w:World):(ReflectliteValue.parts (.agg #[.pointer (some ⟨6,289,none⟩),.pointer (some a),.int .u64 153])).run Tryz.prog w= .ok (some (289,a,153)) w:=Aab
theorem abw (w:World):(Rtype.directlyAssignable 289 289).run Tryz.prog w= .ok true w:=Aab
end As
namespace As
theorem rls (v x:Value):ReflectliteValue.set #[v,x]=(do
 let(some (dst,a,fl),some (src,b,_)):=(<-ReflectliteValue.parts v,<-ReflectliteValue.parts x)
  |unsupported (.noEntry "extern/(internal/reflectlite.Value).Set.zeroValue")
 if fl / ReflectliteValue.flagAddr % 2 == 0 then unsupported (.noEntry "extern/(internal/reflectlite.Value).Set.unaddressable")
 let val<-loadVar src b
 if<-Rtype.directlyAssignable dst src then storeVar dst a val
 else if<-Rtype.implements dst src then
  if (<-Rtype.kind src) == 20 then
   match val with
   | .nilIface=>unsupported (.noEntry "extern/reflectlite: a nil value of one interface type handed on as a value of another")
   |_=>storeVar dst a val
  else storeVar dst a (.iface src val)
 else panicString ("reflectlite.Set: value of type " ++(<-Rtype.spelt src)++ " is not assignable to type " ++(<-Rtype.spelt dst))
 pure (.tuple #[])):=rfl
theorem setNo (ta b:Addr) (p:Int) (old:Value) (W:World) (hb:W.cell? b=some (.int .i64 p)) (ht:W.cell? ta=some old) (hf:W.frozen? ta=false):
 (ReflectliteValue.set #[.agg #[.pointer (some ⟨6,289,none⟩),.pointer (some ta),.int .u64 409],.agg #[.pointer (some ⟨6,289,none⟩),.pointer (some b),.int .u64 153]]).run Tryz.prog W
  = .ok (.tuple #[]) (W.setCell ta (.int .i64 p)):=by
 rw [rls];simp only[Sem.run_bind,ac9,afB,Result.andThen]
 have hl:(loadCells b 1).run Tryz.prog W= .ok #[.int .i64 p] W:=run_loadCells_list W b [.int .i64 p] (λj v hj=>by
  match j,hj with
  |0,hj=>simp at hj;subst hj;simpa [Addr.add] using hb)
 simp[ReflectliteValue.flagAddr,loadVar,isAgg,underlying,Tryz.underlying289,hl,Result.andThen,abw,storeVar,Value.cells,storeCells,Addr.add];rw [run_store Tryz.prog W ta _ _ Aad];simp[ht,hf]
end As
set_option maxRecDepth 100000
namespace As
theorem noAs (v:Value) (xT:TypeId) (w:World):(Instr.typeAssert (.iface 287 v) xT 345 true).run Tryz.prog w= .ok (.tuple #[.nilIface,.bool false]) w:=run_typeAssert_lacksB Tryz.underlying345 Aab Aab v xT w
theorem hasUnwrap (v:Value) (xT:TypeId) (w:World):(Instr.typeAssert (.iface 287 v) xT 348 true).run Tryz.prog w= .ok (.tuple #[.iface 287 v,.bool true]) w:=run_typeAssert_hasB Tryz.underlying348 Aab v xT w
def no (p:Int):Value:= .iface 289 (.agg #[.int .i64 p])
def un (e:Value):Value:= .iface 287 (.agg #[e])
end As
theorem World.lt_of_cell {w:World} {a:Addr} {v:Value} (h:w.cell? a=some v):a.block < w.heap.size:=by
 rcases aF2 a.block w.heap.size with h'|h'
 .exact h'
 .simp[World.cell?,aFO h'] at h
theorem akj (p:Int) (tg:Value) (t a:Addr) (old:Value) (w:World) (ha:w.cell? a=some (.pointer (some t))) (ht:w.cell? t=some old) (hf:w.frozen? t=false):
 Calls Tryz.prog 291 #[.iface 287 (.agg #[.iface 289 (.agg #[.int .i64 p])]),tg,.agg #[.pointer (some ⟨6,291,none⟩),.pointer (some a),.int .u64 150],.iface 340 (.agg #[.pointer (some ⟨6,289,none⟩)])] w
  λe w'=>e= .returned (.bool true)/\Below t.block w w':=by
 open aBN in exact awK
theorem akk (p:Int) (tg:Value) (t a:Addr) (old:Value) (w:World) (ha:w.cell? a=some (.pointer (some t))) (ht:w.cell? t=some old) (hf:w.frozen? t=false):
 Calls Tryz.prog 291 #[.iface 287 (.agg #[.iface 287 (.agg #[.iface 289 (.agg #[.int .i64 p])])]),tg,.agg #[.pointer (some ⟨6,291,none⟩),.pointer (some a),.int .u64 150],.iface 340 (.agg #[.pointer (some ⟨6,289,none⟩)])] w
  λe w'=>e= .returned (.bool true)/\Below t.block w w':=by
 open aBM in exact awK
theorem Pv (err:Value) (tb:Nat) (old:Value) (w:World) (hne:∃v,err= .iface 287 v)
 (has:∀(tg:Value) (t a:Addr) (old:Value) (w:World),w.cell? a=some (.pointer (some t))->w.cell? t=some old->w.frozen? t=false->
  Calls Tryz.prog 291 #[err,tg,.agg #[.pointer (some ⟨6,291,none⟩),.pointer (some a),.int .u64 150],.iface 340 (.agg #[.pointer (some ⟨6,289,none⟩)])] w λe w'=>e= .returned (.bool true)/\Below t.block w w')
 (hg:w.cell? ⟨0,0,none⟩=some (.iface 340 (.agg #[.pointer (some ⟨6,247,none⟩)])))
 (ht:w.cell? ⟨tb,0,none⟩=some old) (hf:w.frozen? ⟨tb,0,none⟩=false):
 Calls Tryz.prog 268 #[err,.iface 291 (.pointer (some ⟨tb,0,none⟩))] w λe w'=>e= .returned (.bool true)/\Below tb w w':=by
 obtain⟨v,rfl⟩:=hne;have HAS:=Hq has;clear has;open awn in exact ahq
def Handle (w:World):Prop:=w.cell? ⟨0,0,none⟩=some (.iface 340 (.agg #[.pointer (some ⟨6,247,none⟩)]))
theorem Handle.below {w w':World} (h:Handle w) (hb:aH w w'):Handle w':=by
 have hl:=World.lt_of_cell h;unfold Handle;rw [hb.cell (p:=⟨0,0,none⟩) hl];exact h
theorem Qm (w:World):Calls Tryz.prog 230 #[.nilIface] w (dU w (.bool false)):=by
 go_in
 go_wp2_with (go_at_call 268;refine(aki _ _).mono ?_;rintro e w' ⟨rfl,rfl⟩)
 go_ret;exact⟨rfl,(aE3 _ _).alloc (aER _) _⟩
theorem Qn (p:Int) (w:World) (h:Handle w):Calls Tryz.prog 230 #[.iface 287 (.agg #[.iface 289 (.agg #[.int .i64 p])])] w (dU w (.bool true)):=by
 open av7 in exact aho
theorem acz (p:Int) (w:World) (h:Handle w):Calls Tryz.prog 230 #[.iface 287 (.agg #[.iface 287 (.agg #[.iface 289 (.agg #[.int .i64 p])])])] w (dU w (.bool true)):=by
 open av6 in exact aho
theorem TB (w:World):CallsD Tryz.prog 194 #[] .returning w λe u' w'=>e= .returned (.tuple #[])/\u'= .returning/\w=w':=by
 refine callsD_of_wpS Tryz.func194 rfl λc₀ cs hu=>?_
 apply wpS_seq
 apply wpS_region
 simp[wpOpsS,go_sem,recoverD,hu,Tryz.ntmps194,Exit.thenS];refine wpS_of_wp ?_;show Code.wp _ _ _ {tmps:=#[.nilIface,undef,undef,.nilIface,undef,undef,undef,undef,undef,undef,undef,undef,undef,undef],defers:=[]} _
 have hnil:∀W:World,(binOp BinOp.eql 20 .nilIface .nilIface).run Tryz.prog W= .ok (.bool true) W:=λ_=>by kernel_rfl
 go_wp2_with fail;cases c₀
 simp_all [bodyPostS,results,Tryz.results194]
theorem Yd (p:Int) (older:List PanicEntry) (w:World):CallsD Tryz.prog 194 #[] (.panicking ({v:= .iface 221 (.agg #[.int .i64 p]),recovered:=false}::older)) w λe u' w'=>e= .returned (.tuple #[])/\u'= .panicking ({v:= .iface 221 (.agg #[.int .i64 p]),recovered:=true}::older)/\aH w w':=by
 refine callsD_of_wpS Tryz.func194 rfl λc₀ cs hu=>?_
 apply wpS_seq
 apply wpS_region
 simp[wpOpsS,go_sem,recoverD,hu,Tryz.ntmps194,Exit.thenS];refine wpS_of_wp ?_;show Code.wp _ _ _ {tmps:=#[.iface 221 (.agg #[.int .i64 p]),undef,undef,.iface 221 (.agg #[.int .i64 p]),undef,undef,undef,undef,undef,undef,undef,undef,undef,undef],defers:=[]} _
 have hnil:∀W:World,(binOp BinOp.eql 20 (.iface 221 (.agg #[.int .i64 p])) .nilIface).run Tryz.prog W= .ok (.bool false) W:=λ_=>by kernel_rfl
 have has:∀W:World,(Instr.typeAssert (.iface 221 (.agg #[.int .i64 p])) 20 221 true).run Tryz.prog W= .ok (.tuple #[.agg #[.int .i64 p],.bool true]) W:=λ_=>by kernel_rfl
 go_wp2_with fail;have hb:Below w.heap.size w (w.alloc (.cells #[.int .i64 p] 221)):=(aE3 _ _).alloc (aER _) _;cases c₀
 simp_all [bodyPostS,results,Tryz.results194]
section
variable {P:Program} {ops:Array Oper} {Q:Exit->Act->World->Prop} {md:Region.Mode} {E b:Nat}
def Wv (Q:Exit->Act->World->Prop):Exit->Act->World->Prop:=λe a w=>match e with
 | .panic _=>False
 |e=>Q e a w
theorem Xt {c:Code} {a:Act} {w:World} (h:Code.wp P c (Wv Q) a w):Code.wp P c Q a w:=
 Code.wp_mono (λe a w h=>by cases e<;>first|exact h|exact h.elim) h
theorem CS {fn:Func} {p:Tmp} {ty:TypeId} (h:fn.results=#[.cell p ty]) (tmps:Array Value) (w:World) (g:Nat) (cs:List Value) (d:TypeDesc)
 (hp:tmps.getD p undef= .pointer (some ⟨g,0,none⟩)) (hc:w.rangeAt g 0 cs) (hu:P.underlying ty=some d) (hd:d.isRow=true) (hi:(P.info? ty).map (·.size)=some cs.length):
 (results fn tmps).run P w= .ok (.agg cs.toArray) w:=by
 exact aia
end
end Go.Proofs.YtbolgdleijjgfaaGreatDoor
