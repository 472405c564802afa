/- Parts. -/
import Derived.Test.YtohmklmkjmlpjaaGreatDoorRc1
namespace Go.Proofs.YtohmklmkjmlpjaaGreatDoor
open Go.Proofs.Tryz
set_option maxHeartbeats 2000000
open Go.RowKit
open Mth
variable {g B:Nat} {xs:List ByteArray} {P:Program}
def gK (w:World) (g:Nat) (xs:List ByteArray):Prop:=w.heap[g]?=some (.cells (xs.map Value.string).toArray 9 (0,0))
theorem gK.cell {w:World} (h:gK w g xs) (i:Nat) (hi:i < xs.length):w.cell? ⟨g,i,none⟩=some (.string xs[i]):=by
 rw [aGu w g i _ 9 (0,0) h];simp[hi]
theorem gK.free {w:World} (h:gK w g xs) (i:Nat):w.frozen? ⟨g,i,none⟩=false:=by
 unfold World.frozen?;rw [h];simp
theorem gK.lt {w:World} (h:gK w g xs):g < w.heap.size:=by
 rcases aHa g w.heap.size with h'|h'
 .exact h'
 .rw [gK,aGU h'] at h;cases h
theorem gK.below {w w':World} (h:gK w g xs) (hb:Below B w w') (hg:g < B):gK w' g xs:=by
 unfold gK;rw [hb.block g hg];exact h
theorem gK.set {w:World} (h:gK w g xs) (i:Nat) (t:ByteArray):gK (w.setCell ⟨g,i,none⟩ (.string t)) g (xs.set i t):=by
 unfold gK World.setCell;simp only[Array.getElem?_modify];rw [aGC trivial,h];simp
structure Keeps (g:Nat) (w w':World):Prop where
 os:w'.os=w.os
 tape:w'.tape=w.tape
 output:w'.output=w.output
 size:w.heap.size<=w'.heap.size
 block:∀k,k < w.heap.size->k≠g->w'.heap[k]?=w.heap[k]?
theorem Keeps.refl (g:Nat) (w:World):Keeps g w w:=⟨rfl,rfl,rfl,aGh _,λ_ _ _=>rfl⟩
theorem Keeps.trans {a b c:World} (h:Keeps g a b) (k:Keeps g b c):Keeps g a c:=
 ⟨k.os.trans h.os,k.tape.trans h.tape,k.output.trans h.output,aGm h.size k.size,λi hi hg=>(k.block i (aGq hi h.size) hg).trans (h.block i hi hg)⟩
theorem Keeps.of_below {w w':World} (h:aI w w'):Keeps g w w':=⟨h.os,h.tape,h.output,h.size,λk hk _=>h.block k hk⟩
theorem Keeps.set {i:Nat} {w:World} (v:Value):Keeps g w (w.setCell ⟨g,i,none⟩ v):=
 ⟨rfl,rfl,rfl,Aaq,λk _ hg=>aGx _ _ _ _ hg⟩
theorem Keeps.below {w w':World} (h:Keeps g w w') (hB:B<=g) (hs:B<=w.heap.size):Below B w w':=⟨h.os,h.tape,h.output,h.size,λk hk=>h.block k Aaa Aaa⟩
theorem gK.keeps {w w':World} {g':Nat} (h:gK w g' xs) (hk:Keeps g w w') (hne:g'≠g):gK w' g' xs:=by
 unfold gK;rw [hk.block g' h.lt hne];exact h
set_option maxRecDepth 100000
abbrev muL:Go.Conc.Locks.MuLink:={lock:=70,unlock:=71,ilock:=126,iunlock:=127,lockSlow:=159,unlockSlow:=162,disable:=155,enable:=157,acquire:=158,relMerge:=160,cas32:=156,add32:=161,tMutex:=130,tIMutex:=128,tPMutex:=181,tPIMutex:=203,tPI32:=205,tUP:=207,tNoCopy:=126,tU32:=104}
theorem Xf:Go.Conc.Locks.MuLib prog muL where
 f_lock:=func70.trans Aab
 f_unlock:=func71.trans Aab
 f_ilock:=func126.trans Aab
 f_iunlock:=func127.trans Aab
 f_disable:=func155.trans Aab
 f_enable:=func157.trans Aab
 f_acquire:=func158.trans Aab
 f_relMerge:=func160.trans Aab
 f_cas32:=func156.trans Aab
 f_add32:=func161.trans Aab
 underlying_tIMutex:=Aab
 runUnderlying_tIMutex:=λ_=>by kernel_rfl
 sizeOf_tIMutex:=λ_=>by kernel_rfl
 isAgg_tIMutex:=λ_=>by kernel_rfl
 zeroValue_tIMutex:=λ_=>by kernel_rfl
 underlying_tMutex:=Aab
 runUnderlying_tMutex:=λ_=>by kernel_rfl
 sizeOf_tMutex:=λ_=>by kernel_rfl
 isAgg_tMutex:=λ_=>by kernel_rfl
 zeroValue_tMutex:=λ_=>by kernel_rfl
 underlying_tPMutex:=Aab
 runUnderlying_tPMutex:=λ_=>by kernel_rfl
 sizeOf_tPMutex:=λ_=>by kernel_rfl
 isAgg_tPMutex:=λ_=>by kernel_rfl
 zeroValue_tPMutex:=λ_=>by kernel_rfl
 underlying_tPIMutex:=Aab
 runUnderlying_tPIMutex:=λ_=>by kernel_rfl
 sizeOf_tPIMutex:=λ_=>by kernel_rfl
 isAgg_tPIMutex:=λ_=>by kernel_rfl
 zeroValue_tPIMutex:=λ_=>by kernel_rfl
 underlying_tPI32:=Aab
 runUnderlying_tPI32:=λ_=>by kernel_rfl
 sizeOf_tPI32:=λ_=>by kernel_rfl
 isAgg_tPI32:=λ_=>by kernel_rfl
 zeroValue_tPI32:=λ_=>by kernel_rfl
 underlying_tUP:=Aab
 runUnderlying_tUP:=λ_=>by kernel_rfl
 sizeOf_tUP:=λ_=>by kernel_rfl
 isAgg_tUP:=λ_=>by kernel_rfl
 zeroValue_tUP:=λ_=>by kernel_rfl
 underlying_tNoCopy:=Aab
 runUnderlying_tNoCopy:=λ_=>by kernel_rfl
 sizeOf_tNoCopy:=λ_=>by kernel_rfl
 isAgg_tNoCopy:=λ_=>by kernel_rfl
 zeroValue_tNoCopy:=λ_=>by kernel_rfl
 underlying_t21:=Aab
 runUnderlying_t21:=λ_=>by kernel_rfl
 sizeOf_t21:=λ_=>by kernel_rfl
 isAgg_t21:=λ_=>by kernel_rfl
 zeroValue_t21:=λ_=>by kernel_rfl
 room_tIMutex:=Aab
open Mth
theorem iU (w:World) (base:Nat) (t ty e:TypeId) (i:TypeInfo) (z:Value) (size bytes:Nat) (ht:P.underlying t=some (.slice e)) (hi:P.info? e=some i) (hz:i.zero=some z) (hsize:i.size=size) (hby:i.bytes=bytes) (hzs:z.cells.size=size) (hsz:0 < size) (v:Value) (n:Nat) (xs:List Value) (hown:w.ownsRow base e size v n xs) (a:Addr) (m c:Nat) (news:List Value) (hl:news.length=m*size) (hnews:∀j u,news[j]?=some u->w.cell? (a.add j)=some u) (h1:∀u∈news,u.oneCell'=true) (h63:n+m<=maxLen) (hbytes:(n+m)*bytes<=140737488355328) (hbase:base<=w.heap.size):
 ∃v' w',(Builtin.append_ #[t,t] ty #[v,.slice (some a) m c]).run P w= .ok v' w'/\w'.ownsRow base e size v' (n+m) (xs++news)/\w.grownBy w' v.ownBlock/\
  ∀x,v'.ownBlock=some x->v.ownBlock=some x\/w.heap.size<=x:=by
 obtain⟨v',w',hr,ho,hg,_⟩:=run_append_own w base t ty e i z size bytes ht hi hz hsize hby hzs hsz v n xs hown a m c news hl hnews h1 h63 hbytes hbase;refine⟨v',w',hr,ho,hg,λx hx=>?_⟩;have hsmall:n+m<=9223372036854775807:=by simp only[maxLen] at h63;omega
 rcases hown.2 with⟨rfl,rfl⟩|⟨g,cap,cur,rfl,hbg,hgg,hnc,hcm,hcs,htake⟩
 .have hxs:xs=[]:=aGM (by simpa using hown.1);subst hxs;obtain⟨v2,w2,hr2,ho2,_,_⟩:=run_append_own w w.heap.size t ty e i z size bytes ht hi hz hsize hby hzs hsz (.slice none 0 0) 0 [] (World.ownsRow_nil w _ e size) a m c news hl hnews h1 h63 hbytes (aGh _);have he:=hr.symm.trans hr2;simp only[Result.ok.injEq] at he;obtain⟨rfl,rfl⟩:=he;exact .inr (ho2.lt x hx).1
 .subst hsize;subst hby;by_cases hroom:n+m<=cap
  .have hfit:n*i.size+news.length<=cur.size:=by rw [hl,hcs,<-aIh];exact aHZ _ hroom
   have hr2:=run_append_room (P:=P) w t ty e i ht hi g n cap cur hgg a m c news hl hnews h1 hroom hfit;have he:=hr.symm.trans hr2;simp only[Result.ok.injEq] at he;obtain⟨rfl,_⟩:=he;exact .inl hx
  .have holds:∀j u,xs[j]?=some u->w.cell? ((⟨g,0,none⟩:Addr).add j)=some u:=hown.cells (g:=g) rfl;have hr2:=run_append_grow (P:=P) w t ty e i z ht hi hz ⟨g,0,none⟩ n cap xs hown.1 holds a m c news hl hnews Aaa Aaa (growslice_fits Aaa hbytes);have he:=hr.symm.trans hr2;simp only[Result.ok.injEq] at he;obtain⟨rfl,_⟩:=he;have:w.heap.size=x:=Abm
   exact .inr Aaa
theorem pJ (w:World) {o:Oper} {a:Act} {K:Act->World->Prop} {Q:Exit->Act->World->Prop} (s x:Operand) (t:TypeId)
 (ho:o.op= .call {callee:= .builtin .append,args:=#[s,x],argTypes:=#[t,t]})
 (base:Nat) (e:TypeId) (i:TypeInfo) (z:Value) (size bytes:Nat) (ht:P.underlying t=some (.slice e)) (hi:P.info? e=some i) (hz:i.zero=some z)
 (hsize:i.size=size) (hby:i.bytes=bytes) (hzs:z.cells.size=size) (hsz:0 < size)
 (v:Value) (n:Nat) (xs:List Value) (hs:a.eval s=v) (hown:w.ownsRow base e size v n xs)
 (ad:Addr) (m c:Nat) (news:List Value) (hx:a.eval x= .slice (some ad) m c) (hl:news.length=m*size) (hnews:∀j u,news[j]?=some u->w.cell? (ad.add j)=some u) (h1:∀u∈news,u.oneCell'=true)
 (h63:n+m<=maxLen) (hbytes:(n+m)*bytes<=140737488355328) (hbase:base<=w.heap.size)
 (h:∀v' w',w'.ownsRow base e size v' (n+m) (xs++news)->w.grownBy w' v.ownBlock->(∀x,v'.ownBlock=some x->v.ownBlock=some x\/w.heap.size<=x)->K (a.put o.dst v') w'):o.wp P a w K Q:=by
 obtain⟨v',w',hr,h2,h3,h4⟩:=iU w base t o.type e i z size bytes ht hi hz hsize hby hzs hsz v n xs hown ad m c news hl hnews h1 h63 hbytes hbase;exact aHD w s x t t ho _ _ hs hx v' w' hr (h v' w' h2 h3 h4)
open Go.RowKit Go.Extern.Stop Go.Stop Go.Extern
theorem ak8 (t:Value) (w:World):
 Calls prog 253 #[.nilIface,t] w λe w'=>e= .returned (.bool false)/\w=w':=by
 go_in
 go_wp2
 go_ret;exact⟨rfl,rfl⟩
namespace As
theorem valueOfPtr (t:Addr) (w:World):(ReflectliteValue.unpack (.iface 276 (.pointer (some t)))).run Tryz.prog w
 = .ok (.agg #[.pointer (some ⟨6,276,none⟩),.pointer (some ⟨w.heap.size,0,none⟩),.int .u64 150]) (w.alloc (.cells #[.pointer (some t)] 276)):=Aab
theorem typePtr (a:Addr) (w:World):(ReflectliteValue.methodAny (ReflectliteValue.valueError "reflectlite.Value.Type" 0) (λt _ _ _=>ReflectliteType.toType t) #[.agg #[.pointer (some ⟨6,276,none⟩),.pointer (some a),.int .u64 150]]).run Tryz.prog w
 = .ok (.iface 330 (.agg #[.pointer (some ⟨6,276,none⟩)])) w:=Aab
theorem methodKind (h:Value) (w:World):(Go.method 501 330 (.agg #[h]) "Kind").run Tryz.prog w= .ok (333,h) w:=Aab
theorem methodElem (h:Value) (w:World):(Go.method 501 330 (.agg #[h]) "Elem").run Tryz.prog w= .ok (351,.agg #[h]) w:=Aab
theorem methodImplements (h:Value) (w:World):(Go.method 501 330 (.agg #[h]) "Implements").run Tryz.prog w= .ok (352,.agg #[h]) w:=Aab
theorem methodAssignableTo (h:Value) (w:World):(Go.method 501 330 (.agg #[h]) "AssignableTo").run Tryz.prog w= .ok (349,.agg #[h]) w:=Aab
theorem methodUnwrap (h:Value) (w:World):(Go.method 501 272 (.agg #[h]) "Unwrap").run Tryz.prog w= .ok (339,.agg #[h]) w:=Aab
theorem kindPtr (w:World):((ReflectliteType.abiMethod λt=>(λa:Nat=>Value.int IntKind.u8 (a:Int)) <$> Rtype.kind t) #[.pointer (some ⟨6,276,none⟩)]).run Tryz.prog w= .ok (.int .u8 22) w:=Aab
theorem kindStruct (w:World):((ReflectliteType.abiMethod λt=>(λa:Nat=>Value.int IntKind.u8 (a:Int)) <$> Rtype.kind t) #[.pointer (some ⟨6,274,none⟩)]).run Tryz.prog w= .ok (.int .u8 25) w:=Aab
theorem rlm (z:Sem Value) (f:TypeId->Addr->Nat->Nat->Sem Value) (v:Value):
 ReflectliteValue.method z f #[v]=(do match<-ReflectliteValue.parts v with|none=>z|some (t,a,fl)=>f t a fl (fl % 32)):=rfl
theorem QO (a:Addr) (w:World):(ReflectliteValue.parts (.agg #[.pointer (some ⟨6,276,none⟩),.pointer (some a),.int .u64 150])).run Tryz.prog w= .ok (some (276,a,150)) w:=Aab
theorem isNil (a p:Addr) (W:World) (ha:W.cell? a=some (.pointer (some p))):
 (ReflectliteValue.method (ReflectliteValue.valueError "reflectlite.Value.IsNil" 0) ReflectliteValue.isNil #[.agg #[.pointer (some ⟨6,276,none⟩),.pointer (some a),.int .u64 150]]).run Tryz.prog W= .ok (.bool false) W:=by
 rw [rlm];simp only[Sem.run_bind,QO,Result.andThen];simp[ReflectliteValue.isNil,loadVar,isAgg,underlying,Tryz.underlying276,ha,Result.andThen]
theorem elemType (w:World):(ReflectliteType.method ReflectliteType.elem #[.agg #[.pointer (some ⟨6,276,none⟩)]]).run Tryz.prog w= .ok (.iface 330 (.agg #[.pointer (some ⟨6,274,none⟩)])) w:=Aab
theorem implements (w:World):(ReflectliteType.relation "Implements" ReflectliteType.implements_ #[.agg #[.pointer (some ⟨6,274,none⟩)],.iface 330 (.agg #[.pointer (some ⟨6,242,none⟩)])]).run Tryz.prog w= .ok (.bool true) w:=Aab
theorem typeOfNo (v:Value) (w:World):(ReflectliteType.typeOf #[.iface 274 v]).run Tryz.prog w= .ok (.iface 330 (.agg #[.pointer (some ⟨6,274,none⟩)])) w:=Aab
theorem typeOfUnread (v:Value) (w:World):(ReflectliteType.typeOf #[.iface 272 v]).run Tryz.prog w= .ok (.iface 330 (.agg #[.pointer (some ⟨6,272,none⟩)])) w:=Aab
theorem assignNo (w:World):(ReflectliteType.relation "AssignableTo" ReflectliteType.assignableTo #[.agg #[.pointer (some ⟨6,274,none⟩)],.iface 330 (.agg #[.pointer (some ⟨6,274,none⟩)])]).run Tryz.prog w= .ok (.bool true) w:=Aab
theorem assignUnread (w:World):(ReflectliteType.relation "AssignableTo" ReflectliteType.assignableTo #[.agg #[.pointer (some ⟨6,272,none⟩)],.iface 330 (.agg #[.pointer (some ⟨6,274,none⟩)])]).run Tryz.prog w= .ok (.bool false) w:=Aab
theorem valueOfNo (p:Int) (w:World):(ReflectliteValue.unpack (.iface 274 (.agg #[.int .i64 p]))).run Tryz.prog w
 = .ok (.agg #[.pointer (some ⟨6,274,none⟩),.pointer (some ⟨w.heap.size,0,none⟩),.int .u64 153]) (w.alloc (.cells #[.int .i64 p] 274)):=Aab
theorem elemOf (w:World):(Rtype.elem? 276).run Tryz.prog w= .ok (some 274) w:=Aab
theorem aEw (p:Addr) (w:World):(ReflectliteValue.mk 274 p ReflectliteValue.flagAddr).run Tryz.prog w= .ok (.agg #[.pointer (some ⟨6,274,none⟩),.pointer (some p),.int .u64 409]) w:=Aab
theorem elemV (a p:Addr) (W:World) (ha:W.cell? a=some (.pointer (some p))):
 (ReflectliteValue.method (ReflectliteValue.valueError "reflectlite.Value.Elem" 0) ReflectliteValue.elem #[.agg #[.pointer (some ⟨6,276,none⟩),.pointer (some a),.int .u64 150]]).run Tryz.prog W
  = .ok (.agg #[.pointer (some ⟨6,274,none⟩),.pointer (some p),.int .u64 409]) W:=by
 rw [rlm];simp only[Sem.run_bind,QO,Result.andThen];simp[ReflectliteValue.elem,loadVar,isAgg,underlying,Tryz.underlying276,ha,Result.andThen,elemOf,aEw]
theorem adA (a:Addr) (w:World):(ReflectliteValue.parts (.agg #[.pointer (some ⟨6,274,none⟩),.pointer (some a),.int .u64 409])).run Tryz.prog w= .ok (some (274,a,409)) w:=Aab
theorem afV (a:Addr) (w:World):(ReflectliteValue.parts (.agg #[.pointer (some ⟨6,274,none⟩),.pointer (some a),.int .u64 153])).run Tryz.prog w= .ok (some (274,a,153)) w:=Aab
theorem abP (w:World):(Rtype.directlyAssignable 274 274).run Tryz.prog w= .ok true w:=Aab
end As
namespace As
theorem rls (v x:Value):ReflectliteValue.set #[v,x]=(do
 let(some (dst,a,fl),some (src,b,_)):=(<-ReflectliteValue.parts v,<-ReflectliteValue.parts x)
  |unsupported (.noEntry "extern/(internal/reflectlite.Value).Set.zeroValue")
 if fl / ReflectliteValue.flagAddr % 2 == 0 then unsupported (.noEntry "extern/(internal/reflectlite.Value).Set.unaddressable")
 let val<-loadVar src b
 if<-Rtype.directlyAssignable dst src then storeVar dst a val
 else if<-Rtype.implements dst src then
  if (<-Rtype.kind src) == 20 then
   match val with
   | .nilIface=>unsupported (.noEntry "extern/reflectlite: a nil value of one interface type handed on as a value of another")
   |_=>storeVar dst a val
  else storeVar dst a (.iface src val)
 else panicString ("reflectlite.Set: value of type " ++(<-Rtype.spelt src)++ " is not assignable to type " ++(<-Rtype.spelt dst))
 pure (.tuple #[])):=rfl
theorem setNo (ta b:Addr) (p:Int) (old:Value) (W:World) (hb:W.cell? b=some (.int .i64 p)) (ht:W.cell? ta=some old) (hf:W.frozen? ta=false):
 (ReflectliteValue.set #[.agg #[.pointer (some ⟨6,274,none⟩),.pointer (some ta),.int .u64 409],.agg #[.pointer (some ⟨6,274,none⟩),.pointer (some b),.int .u64 153]]).run Tryz.prog W
  = .ok (.tuple #[]) (W.setCell ta (.int .i64 p)):=by
 rw [rls];simp only[Sem.run_bind,adA,afV,Result.andThen]
 have hl:(loadCells b 1).run Tryz.prog W= .ok #[.int .i64 p] W:=run_loadCells_list W b [.int .i64 p] (λj v hj=>by
  match j,hj with
  |0,hj=>simp at hj;subst hj;simpa [Addr.add] using hb)
 simp[ReflectliteValue.flagAddr,loadVar,isAgg,underlying,Tryz.underlying274,hl,Result.andThen,abP,storeVar,Value.cells,storeCells,Addr.add];rw [run_store Tryz.prog W ta _ _ Aad];simp[ht,hf]
end As
namespace As
theorem noAs (v:Value) (xT:TypeId) (w:World):(Instr.typeAssert (.iface 272 v) xT 335 true).run Tryz.prog w= .ok (.tuple #[.nilIface,.bool false]) w:=run_typeAssert_lacksB Tryz.underlying335 Aab Aab v xT w
theorem hasUnwrap (v:Value) (xT:TypeId) (w:World):(Instr.typeAssert (.iface 272 v) xT 338 true).run Tryz.prog w= .ok (.tuple #[.iface 272 v,.bool true]) w:=run_typeAssert_hasB Tryz.underlying338 Aab v xT w
def no (p:Int):Value:= .iface 274 (.agg #[.int .i64 p])
def un (e:Value):Value:= .iface 272 (.agg #[e])
end As
theorem World.lt_of_cell {w:World} {a:Addr} {v:Value} (h:w.cell? a=some v):a.block < w.heap.size:=by
 rcases aHa a.block w.heap.size with h'|h'
 .exact h'
 .simp[World.cell?,aGU h'] at h
theorem ak9 (p:Int) (tg:Value) (t a:Addr) (old:Value) (w:World) (ha:w.cell? a=some (.pointer (some t))) (ht:w.cell? t=some old) (hf:w.frozen? t=false):
 Calls Tryz.prog 273 #[.iface 272 (.agg #[.iface 274 (.agg #[.int .i64 p])]),tg,.agg #[.pointer (some ⟨6,276,none⟩),.pointer (some a),.int .u64 150],.iface 330 (.agg #[.pointer (some ⟨6,274,none⟩)])] w
  λe w'=>e= .returned (.bool true)/\Below t.block w w':=by
 open anX in exact ayn
theorem ala (p:Int) (tg:Value) (t a:Addr) (old:Value) (w:World) (ha:w.cell? a=some (.pointer (some t))) (ht:w.cell? t=some old) (hf:w.frozen? t=false):
 Calls Tryz.prog 273 #[.iface 272 (.agg #[.iface 272 (.agg #[.iface 274 (.agg #[.int .i64 p])])]),tg,.agg #[.pointer (some ⟨6,276,none⟩),.pointer (some a),.int .u64 150],.iface 330 (.agg #[.pointer (some ⟨6,274,none⟩)])] w
  λe w'=>e= .returned (.bool true)/\Below t.block w w':=by
 open anW in exact ayn
theorem PE (err:Value) (tb:Nat) (old:Value) (w:World) (hne:∃v,err= .iface 272 v) (has:∀(tg:Value) (t a:Addr) (old:Value) (w:World),w.cell? a=some (.pointer (some t))->w.cell? t=some old->w.frozen? t=false->
  Calls Tryz.prog 273 #[err,tg,.agg #[.pointer (some ⟨6,276,none⟩),.pointer (some a),.int .u64 150],.iface 330 (.agg #[.pointer (some ⟨6,274,none⟩)])] w λe w'=>e= .returned (.bool true)/\Below t.block w w') (hg:w.cell? ⟨0,0,none⟩=some (.iface 330 (.agg #[.pointer (some ⟨6,242,none⟩)]))) (ht:w.cell? ⟨tb,0,none⟩=some old) (hf:w.frozen? ⟨tb,0,none⟩=false):
 Calls Tryz.prog 253 #[err,.iface 276 (.pointer (some ⟨tb,0,none⟩))] w λe w'=>e= .returned (.bool true)/\Below tb w w':=by
 obtain⟨v,rfl⟩:=hne;have HAS:=Hq has;clear has;open axW in exact ah7
def Handle (w:World):Prop:=w.cell? ⟨0,0,none⟩=some (.iface 330 (.agg #[.pointer (some ⟨6,242,none⟩)]))
theorem Handle.below {w w':World} (h:Handle w) (hb:aI w w'):Handle w':=by
 have hl:=World.lt_of_cell h;unfold Handle;rw [hb.cell (p:=⟨0,0,none⟩) hl];exact h
theorem Qu (w:World):Calls Tryz.prog 223 #[.nilIface] w (dZ w (.bool false)):=by
 go_in
 go_wp2_with (go_at_call 253;refine(ak8 _ _).mono ?_;rintro e w' ⟨rfl,rfl⟩)
 go_ret;exact⟨rfl,(aGs _ _).alloc (aGh _) _⟩
theorem Qv (p:Int) (w:World) (h:Handle w):Calls Tryz.prog 223 #[.iface 272 (.agg #[.iface 274 (.agg #[.int .i64 p])])] w (dZ w (.bool true)):=by
 open axC in exact ah2
theorem acY (p:Int) (w:World) (h:Handle w):Calls Tryz.prog 223 #[.iface 272 (.agg #[.iface 272 (.agg #[.iface 274 (.agg #[.int .i64 p])])])] w (dZ w (.bool true)):=by
 open axB in exact ah2
theorem TM (w:World):CallsD Tryz.prog 164 #[] .returning w λe u' w'=>e= .returned (.tuple #[])/\u'= .returning/\w=w':=by
 refine callsD_of_wpS Tryz.func164 rfl λc₀ cs hu=>?_
 apply wpS_seq
 apply wpS_region
 simp[wpOpsS,go_sem,recoverD,hu,Tryz.ntmps164,Exit.thenS];refine wpS_of_wp ?_;show Code.wp _ _ _ {tmps:=#[.nilIface,undef,undef,.nilIface,undef,undef,undef,undef,undef,undef,undef,undef,undef,undef],defers:=[]} _
 have hnil:∀W:World,(binOp BinOp.eql 20 .nilIface .nilIface).run Tryz.prog W= .ok (.bool true) W:=λ_=>by kernel_rfl
 go_wp2_with fail;cases c₀
 simp_all [bodyPostS,results,Tryz.results164]
theorem Yb (p:Int) (older:List PanicEntry) (w:World):CallsD Tryz.prog 164 #[] (.panicking ({v:= .iface 211 (.agg #[.int .i64 p]),recovered:=false}::older)) w λe u' w'=>e= .returned (.tuple #[])/\u'= .panicking ({v:= .iface 211 (.agg #[.int .i64 p]),recovered:=true}::older)/\aI w w':=by
 refine callsD_of_wpS Tryz.func164 rfl λc₀ cs hu=>?_
 apply wpS_seq
 apply wpS_region
 simp[wpOpsS,go_sem,recoverD,hu,Tryz.ntmps164,Exit.thenS];refine wpS_of_wp ?_;show Code.wp _ _ _ {tmps:=#[.iface 211 (.agg #[.int .i64 p]),undef,undef,.iface 211 (.agg #[.int .i64 p]),undef,undef,undef,undef,undef,undef,undef,undef,undef,undef],defers:=[]} _
 have hnil:∀W:World,(binOp BinOp.eql 20 (.iface 211 (.agg #[.int .i64 p])) .nilIface).run Tryz.prog W= .ok (.bool false) W:=λ_=>by kernel_rfl
 have has:∀W:World,(Instr.typeAssert (.iface 211 (.agg #[.int .i64 p])) 20 211 true).run Tryz.prog W= .ok (.tuple #[.agg #[.int .i64 p],.bool true]) W:=λ_=>by kernel_rfl
 go_wp2_with fail;have hb:Below w.heap.size w (w.alloc (.cells #[.int .i64 p] 211)):=(aGs _ _).alloc (aGh _) _;cases c₀
 simp_all [bodyPostS,results,Tryz.results164]
end Go.Proofs.YtohmklmkjmlpjaaGreatDoor
