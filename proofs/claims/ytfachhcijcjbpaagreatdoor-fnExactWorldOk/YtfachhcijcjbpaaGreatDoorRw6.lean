/- Parts. -/
import Derived.Test.YtfachhcijcjbpaaGreatDoorRw1
namespace Go.Proofs
open Go.Shelf YtfachhcijcjbpaaGreatDoor
def Tryz.sortL_ren:Go.Shelf.Ren:=⟨fun|5=>214|8=>233|7=>232|19=>269|20=>270|10=>260|11=>261|12=>262|13=>263|14=>264|15=>265|16=>266|17=>267|18=>268|30=>287|31=>288|32=>289|33=>290|34=>291|35=>292|40=>304|n=>n,fun|23=>22|25=>3|3=>3|32=>243|22=>22|0=>0|44=>139|46=>320|4=>4|36=>312|35=>311|41=>272|5=>5|9=>9|53=>351|57=>355|63=>374|64=>173|n=>n,fun|n=>n⟩
theorem Tryz.sortL:Go.Proofs.SlLaysM.n5 Tryz.prog Tryz.sortL_ren:={
 mixed:=Aab
 f5:=⟨Tryz.f214.name,Aag,Tryz.func214.trans (congrArg some Aab)⟩
 f7:=⟨Tryz.f232.name,Aag,Tryz.func232.trans (congrArg some Aab)⟩
 f8:=Tryz.func233.trans (congrArg some Aab)
 f10:=⟨Tryz.f260.name,Aag,Tryz.func260.trans (congrArg some Aab)⟩
 f11:=⟨Tryz.f261.name,Aag,Tryz.func261.trans (congrArg some Aab)⟩
 f12:=⟨Tryz.f262.name,Aag,Tryz.func262.trans (congrArg some Aab)⟩
 f13:=⟨Tryz.f263.name,Aag,Tryz.func263.trans (congrArg some Aab)⟩
 f14:=⟨Tryz.f264.name,Aag,Tryz.func264.trans (congrArg some Aab)⟩
 f15:=⟨Tryz.f265.name,Aag,Tryz.func265.trans (congrArg some Aab)⟩
 f16:=⟨Tryz.f266.name,Aag,Tryz.func266.trans (congrArg some Aab)⟩
 f17:=⟨Tryz.f267.name,Aag,Tryz.func267.trans (congrArg some Aab)⟩
 f18:=⟨Tryz.f268.name,Aag,Tryz.func268.trans (congrArg some Aab)⟩
 f19:=Tryz.func269.trans (congrArg some Aab)
 f20:=Tryz.func270.trans (congrArg some Aab)
 f30:=⟨Tryz.f287.name,Aag,Tryz.func287.trans (congrArg some Aab)⟩
 f31:=Tryz.func288.trans (congrArg some Aab)
 f32:=Tryz.func289.trans (congrArg some Aab)
 f33:=⟨Tryz.f290.name,Aag,Tryz.func290.trans (congrArg some Aab)⟩
 f34:=⟨Tryz.f291.name,Aag,Tryz.func291.trans (congrArg some Aab)⟩
 f35:=⟨Tryz.f292.name,Aag,Tryz.func292.trans (congrArg some Aab)⟩
 f40:=⟨Tryz.f304.name,Aag,Tryz.func304.trans (congrArg some Aab)⟩
 t0:=Tryz.underlying0
 a0:=Tryz.isAgg0
 z0:=Tryz.sizeOf0
 v0:=Tryz.zeroValue0
 t3:=Tryz.underlying3
 a3:=Tryz.isAgg3
 z3:=Tryz.sizeOf3
 v3:=Tryz.zeroValue3
 t4:=Tryz.underlying4
 a4:=Tryz.isAgg4
 z4:=Tryz.sizeOf4
 v4:=Tryz.zeroValue4
 t5:=Tryz.underlying5
 a5:=Tryz.isAgg5
 z5:=Tryz.sizeOf5
 v5:=Tryz.zeroValue5
 t9:=Tryz.underlying9
 a9:=Tryz.isAgg9
 z9:=Tryz.sizeOf9
 v9:=Tryz.zeroValue9
 t22:=Tryz.underlying22
 a22:=Tryz.isAgg22
 z22:=Tryz.sizeOf22
 v22:=Tryz.zeroValue22
 t23:=Tryz.underlying22
 a23:=Tryz.isAgg22
 z23:=Tryz.sizeOf22
 v23:=Tryz.zeroValue22
 t25:=Tryz.underlying3
 a25:=Tryz.isAgg3
 z25:=Tryz.sizeOf3
 v25:=Tryz.zeroValue3
 t32:=Tryz.underlying243
 a32:=Tryz.isAgg243
 z32:=Tryz.sizeOf243
 v32:=Tryz.zeroValue243
 t35:=Tryz.underlying311
 a35:=Tryz.isAgg311
 z35:=Tryz.sizeOf311
 v35:=Tryz.zeroValue311
 t36:=Tryz.underlying312
 a36:=Tryz.isAgg312
 z36:=Tryz.sizeOf312
 v36:=Tryz.zeroValue312
 t41:=Tryz.underlying272
 a41:=Tryz.isAgg272
 z41:=Tryz.sizeOf272
 v41:=Tryz.zeroValue272
 t44:=Tryz.underlying139
 a44:=Tryz.isAgg139
 z44:=Tryz.sizeOf139
 v44:=Tryz.zeroValue139
 t46:=Tryz.underlying320
 a46:=Tryz.isAgg320
 z46:=Tryz.sizeOf320
 v46:=Tryz.zeroValue320
 t53:=Tryz.underlying351
 a53:=Tryz.isAgg351
 z53:=Tryz.sizeOf351
 v53:=Tryz.zeroValue351
 t57:=Tryz.underlying355
 a57:=Tryz.isAgg355
 z57:=Tryz.sizeOf355
 v57:=Tryz.zeroValue355
 t63:=Tryz.underlying374
 a63:=Tryz.isAgg374
 z63:=Tryz.sizeOf374
 v63:=Tryz.zeroValue374
 t64:=Tryz.underlying173
 a64:=Tryz.isAgg173
 z64:=Tryz.sizeOf173
 v64:=Tryz.zeroValue173}
end Go.Proofs
namespace Go.Proofs
open Go.Shelf YtfachhcijcjbpaaGreatDoor
def Tryz.keysL_ren:Go.Shelf.Ren:=⟨fun|7=>286|10=>303|n=>n,fun|23=>341|26=>3|3=>155|28=>349|0=>0|27=>348|33=>127|4=>4|n=>n,fun|n=>n⟩
theorem Tryz.keysL:Go.Proofs.SlLaysZI.n7 Tryz.prog Tryz.keysL_ren:={
 mixed:=Aab
 f7:=⟨Tryz.f286.name,Aag,Tryz.func286.trans (congrArg some Aab)⟩
 f10:=⟨Tryz.f303.name,Aag,Tryz.func303.trans (congrArg some Aab)⟩
 t0:=Tryz.underlying0
 a0:=Tryz.isAgg0
 z0:=Tryz.sizeOf0
 v0:=Tryz.zeroValue0
 t4:=Tryz.underlying4
 a4:=Tryz.isAgg4
 z4:=Tryz.sizeOf4
 v4:=Tryz.zeroValue4
 t23:=Tryz.underlying341
 a23:=Tryz.isAgg341
 z23:=Tryz.sizeOf341
 v23:=Tryz.zeroValue341
 t26:=Tryz.underlying3
 a26:=Tryz.isAgg3
 z26:=Tryz.sizeOf3
 v26:=Tryz.zeroValue3
 t27:=Tryz.underlying348
 a27:=Tryz.isAgg348
 z27:=Tryz.sizeOf348
 v27:=Tryz.zeroValue348
 t28:=Tryz.underlying349
 a28:=Tryz.isAgg349
 z28:=Tryz.sizeOf349
 v28:=Tryz.zeroValue349
 t33:=Tryz.underlying127
 a33:=Tryz.isAgg127
 z33:=Tryz.sizeOf127
 v33:=Tryz.zeroValue127}
def Tryz.sortedL_ren:Go.Shelf.Ren:=⟨fun|6=>285|8=>302|9=>214|11=>314|13=>233|12=>232|23=>269|24=>270|14=>260|15=>261|16=>262|17=>263|18=>264|19=>265|20=>266|21=>267|22=>268|25=>287|26=>288|27=>289|28=>290|29=>291|30=>292|31=>304|n=>n,fun|26=>3|28=>349|24=>22|0=>0|3=>3|37=>243|48=>139|50=>320|4=>4|40=>312|39=>311|45=>272|5=>5|9=>9|51=>351|55=>355|57=>374|58=>173|33=>127|n=>n,fun|n=>n⟩
theorem Tryz.sortedL:Go.Proofs.SlLaysZI.n6 Tryz.prog Tryz.sortedL_ren:={
 mixed:=Aab
 f6:=⟨Tryz.f285.name,Aag,Tryz.func285.trans (congrArg some Aab)⟩
 f8:=⟨Tryz.f302.name,Aag,Tryz.func302.trans (congrArg some Aab)⟩
 f11:=⟨Tryz.f314.name,Aag,Tryz.func314.trans (congrArg some Aab)⟩
 t0:=Tryz.underlying0
 a0:=Tryz.isAgg0
 z0:=Tryz.sizeOf0
 v0:=Tryz.zeroValue0
 t24:=Tryz.underlying22
 a24:=Tryz.isAgg22
 z24:=Tryz.sizeOf22
 v24:=Tryz.zeroValue22
 t26:=Tryz.underlying3
 a26:=Tryz.isAgg3
 z26:=Tryz.sizeOf3
 v26:=Tryz.zeroValue3
 t28:=Tryz.underlying349
 a28:=Tryz.isAgg349
 z28:=Tryz.sizeOf349
 v28:=Tryz.zeroValue349
 i26:=by kernel_rfl}
end Go.Proofs
namespace Go.Proofs.YtfachhcijcjbpaaGreatDoor
open Go.Proofs.Tryz
open Go.RowKit Go.Extern.Stop Go.Stop Go.Extern
theorem aks (t:Value) (w:World):
 Calls prog 273 #[.nilIface,t] w λe w'=>e= .returned (.bool false)/\w=w':=by
 go_in
 go_wp2
 go_ret;exact⟨rfl,rfl⟩
namespace As
theorem valueOfPtr (t:Addr) (w:World):(ReflectliteValue.unpack (.iface 328 (.pointer (some t)))).run Tryz.prog w
 = .ok (.agg #[.pointer (some ⟨6,328,none⟩),.pointer (some ⟨w.heap.size,0,none⟩),.int .u64 150]) (w.alloc (.cells #[.pointer (some t)] 328)):=Aab
theorem typePtr (a:Addr) (w:World):(ReflectliteValue.methodAny (ReflectliteValue.valueError "reflectlite.Value.Type" 0) (λt _ _ _=>ReflectliteType.toType t) #[.agg #[.pointer (some ⟨6,328,none⟩),.pointer (some a),.int .u64 150]]).run Tryz.prog w
 = .ok (.iface 377 (.agg #[.pointer (some ⟨6,328,none⟩)])) w:=Aab
theorem methodKind (h:Value) (w:World):(Go.method 538 377 (.agg #[h]) "Kind").run Tryz.prog w= .ok (339,h) w:=Aab
theorem methodElem (h:Value) (w:World):(Go.method 538 377 (.agg #[h]) "Elem").run Tryz.prog w= .ok (359,.agg #[h]) w:=Aab
theorem methodImplements (h:Value) (w:World):(Go.method 538 377 (.agg #[h]) "Implements").run Tryz.prog w= .ok (360,.agg #[h]) w:=Aab
theorem methodAssignableTo (h:Value) (w:World):(Go.method 538 377 (.agg #[h]) "AssignableTo").run Tryz.prog w= .ok (357,.agg #[h]) w:=Aab
theorem methodUnwrap (h:Value) (w:World):(Go.method 538 324 (.agg #[h]) "Unwrap").run Tryz.prog w= .ok (347,.agg #[h]) w:=Aab
theorem kindPtr (w:World):((ReflectliteType.abiMethod λt=>(λa:Nat=>Value.int IntKind.u8 (a:Int)) <$> Rtype.kind t) #[.pointer (some ⟨6,328,none⟩)]).run Tryz.prog w= .ok (.int .u8 22) w:=Aab
theorem kindStruct (w:World):((ReflectliteType.abiMethod λt=>(λa:Nat=>Value.int IntKind.u8 (a:Int)) <$> Rtype.kind t) #[.pointer (some ⟨6,326,none⟩)]).run Tryz.prog w= .ok (.int .u8 25) w:=Aab
theorem rlm (z:Sem Value) (f:TypeId->Addr->Nat->Nat->Sem Value) (v:Value):
 ReflectliteValue.method z f #[v]=(do match<-ReflectliteValue.parts v with|none=>z|some (t,a,fl)=>f t a fl (fl % 32)):=rfl
theorem QV (a:Addr) (w:World):(ReflectliteValue.parts (.agg #[.pointer (some ⟨6,328,none⟩),.pointer (some a),.int .u64 150])).run Tryz.prog w= .ok (some (328,a,150)) w:=Aab
theorem isNil (a p:Addr) (W:World) (ha:W.cell? a=some (.pointer (some p))):
 (ReflectliteValue.method (ReflectliteValue.valueError "reflectlite.Value.IsNil" 0) ReflectliteValue.isNil #[.agg #[.pointer (some ⟨6,328,none⟩),.pointer (some a),.int .u64 150]]).run Tryz.prog W= .ok (.bool false) W:=by
 rw [rlm];simp only[Sem.run_bind,QV,Result.andThen];simp[ReflectliteValue.isNil,loadVar,isAgg,underlying,Tryz.underlying328,ha,Result.andThen]
theorem elemType (w:World):(ReflectliteType.method ReflectliteType.elem #[.agg #[.pointer (some ⟨6,328,none⟩)]]).run Tryz.prog w= .ok (.iface 377 (.agg #[.pointer (some ⟨6,326,none⟩)])) w:=Aab
theorem implements (w:World):(ReflectliteType.relation "Implements" ReflectliteType.implements_ #[.agg #[.pointer (some ⟨6,326,none⟩)],.iface 377 (.agg #[.pointer (some ⟨6,284,none⟩)])]).run Tryz.prog w= .ok (.bool true) w:=Aab
theorem typeOfNo (v:Value) (w:World):(ReflectliteType.typeOf #[.iface 326 v]).run Tryz.prog w= .ok (.iface 377 (.agg #[.pointer (some ⟨6,326,none⟩)])) w:=Aab
theorem typeOfUnread (v:Value) (w:World):(ReflectliteType.typeOf #[.iface 324 v]).run Tryz.prog w= .ok (.iface 377 (.agg #[.pointer (some ⟨6,324,none⟩)])) w:=Aab
theorem assignNo (w:World):(ReflectliteType.relation "AssignableTo" ReflectliteType.assignableTo #[.agg #[.pointer (some ⟨6,326,none⟩)],.iface 377 (.agg #[.pointer (some ⟨6,326,none⟩)])]).run Tryz.prog w= .ok (.bool true) w:=Aab
theorem assignUnread (w:World):(ReflectliteType.relation "AssignableTo" ReflectliteType.assignableTo #[.agg #[.pointer (some ⟨6,324,none⟩)],.iface 377 (.agg #[.pointer (some ⟨6,326,none⟩)])]).run Tryz.prog w= .ok (.bool false) w:=Aab
theorem valueOfNo (p:Int) (w:World):(ReflectliteValue.unpack (.iface 326 (.agg #[.int .i64 p]))).run Tryz.prog w
 = .ok (.agg #[.pointer (some ⟨6,326,none⟩),.pointer (some ⟨w.heap.size,0,none⟩),.int .u64 153]) (w.alloc (.cells #[.int .i64 p] 326)):=Aab
theorem elemOf (w:World):(Rtype.elem? 328).run Tryz.prog w= .ok (some 326) w:=Aab
theorem aCA (p:Addr) (w:World):(ReflectliteValue.mk 326 p ReflectliteValue.flagAddr).run Tryz.prog w= .ok (.agg #[.pointer (some ⟨6,326,none⟩),.pointer (some p),.int .u64 409]) w:=Aab
theorem elemV (a p:Addr) (W:World) (ha:W.cell? a=some (.pointer (some p))):
 (ReflectliteValue.method (ReflectliteValue.valueError "reflectlite.Value.Elem" 0) ReflectliteValue.elem #[.agg #[.pointer (some ⟨6,328,none⟩),.pointer (some a),.int .u64 150]]).run Tryz.prog W
  = .ok (.agg #[.pointer (some ⟨6,326,none⟩),.pointer (some p),.int .u64 409]) W:=by
 rw [rlm];simp only[Sem.run_bind,QV,Result.andThen];simp[ReflectliteValue.elem,loadVar,isAgg,underlying,Tryz.underlying328,ha,Result.andThen,elemOf,aCA]
theorem ade (a:Addr) (w:World):(ReflectliteValue.parts (.agg #[.pointer (some ⟨6,326,none⟩),.pointer (some a),.int .u64 409])).run Tryz.prog w= .ok (some (326,a,409)) w:=Aab
theorem afL (a:Addr) (w:World):(ReflectliteValue.parts (.agg #[.pointer (some ⟨6,326,none⟩),.pointer (some a),.int .u64 153])).run Tryz.prog w= .ok (some (326,a,153)) w:=Aab
theorem abB (w:World):(Rtype.directlyAssignable 326 326).run Tryz.prog w= .ok true w:=Aab
end As
open Go.RowKit Go.Extern.Stop Go.Stop Go.Extern
namespace As
theorem rls (v x:Value):ReflectliteValue.set #[v,x]=(do
 let(some (dst,a,fl),some (src,b,_)):=(<-ReflectliteValue.parts v,<-ReflectliteValue.parts x)
  |unsupported (.noEntry "extern/(internal/reflectlite.Value).Set.zeroValue")
 if fl / ReflectliteValue.flagAddr % 2 == 0 then unsupported (.noEntry "extern/(internal/reflectlite.Value).Set.unaddressable")
 let val<-loadVar src b
 if<-Rtype.directlyAssignable dst src then storeVar dst a val
 else if<-Rtype.implements dst src then
  if (<-Rtype.kind src) == 20 then
   match val with
   | .nilIface=>unsupported (.noEntry "extern/reflectlite: a nil value of one interface type handed on as a value of another")
   |_=>storeVar dst a val
  else storeVar dst a (.iface src val)
 else panicString ("reflectlite.Set: value of type " ++(<-Rtype.spelt src)++ " is not assignable to type " ++(<-Rtype.spelt dst))
 pure (.tuple #[])):=rfl
theorem setNo (ta b:Addr) (p:Int) (old:Value) (W:World) (hb:W.cell? b=some (.int .i64 p)) (ht:W.cell? ta=some old) (hf:W.frozen? ta=false):
 (ReflectliteValue.set #[.agg #[.pointer (some ⟨6,326,none⟩),.pointer (some ta),.int .u64 409],.agg #[.pointer (some ⟨6,326,none⟩),.pointer (some b),.int .u64 153]]).run Tryz.prog W
  = .ok (.tuple #[]) (W.setCell ta (.int .i64 p)):=by
 rw [rls];simp only[Sem.run_bind,ade,afL,Result.andThen]
 have hl:(loadCells b 1).run Tryz.prog W= .ok #[.int .i64 p] W:=run_loadCells_list W b [.int .i64 p] (λj v hj=>by
  match j,hj with
  |0,hj=>simp at hj;subst hj;simpa [Addr.add] using hb)
 simp[ReflectliteValue.flagAddr,loadVar,isAgg,underlying,Tryz.underlying326,hl,Result.andThen,abB,storeVar,Value.cells,storeCells,Addr.add];rw [run_store Tryz.prog W ta _ _ Aah];simp[ht,hf]
end As
set_option maxHeartbeats 2000000
set_option maxRecDepth 100000
open Go.RowKit Go.Extern.Stop Go.Stop Go.Extern
namespace As
theorem noAs (v:Value) (xT:TypeId) (w:World):(Instr.typeAssert (.iface 324 v) xT 382 true).run Tryz.prog w= .ok (.tuple #[.nilIface,.bool false]) w:=run_typeAssert_lacksB Tryz.underlying382 Aab Aab v xT w
theorem hasUnwrap (v:Value) (xT:TypeId) (w:World):(Instr.typeAssert (.iface 324 v) xT 385 true).run Tryz.prog w= .ok (.tuple #[.iface 324 v,.bool true]) w:=run_typeAssert_hasB Tryz.underlying385 Aab v xT w
def no (p:Int):Value:= .iface 326 (.agg #[.int .i64 p])
def un (e:Value):Value:= .iface 324 (.agg #[e])
end As
theorem World.lt_of_cell {w:World} {a:Addr} {v:Value} (h:w.cell? a=some v):a.block < w.heap.size:=by
 rcases aFD a.block w.heap.size with h'|h'
 .exact h'
 .simp[World.cell?,aFp h'] at h
theorem akt (p:Int) (tg:Value) (t a:Addr) (old:Value) (w:World) (ha:w.cell? a=some (.pointer (some t))) (ht:w.cell? t=some old) (hf:w.frozen? t=false):
 Calls Tryz.prog 296 #[.iface 324 (.agg #[.iface 326 (.agg #[.int .i64 p])]),tg,.agg #[.pointer (some ⟨6,328,none⟩),.pointer (some a),.int .u64 150],.iface 377 (.agg #[.pointer (some ⟨6,326,none⟩)])] w
  λe w'=>e= .returned (.bool true)/\Below t.block w w':=by
 open aBt in exact av9
theorem aku (p:Int) (tg:Value) (t a:Addr) (old:Value) (w:World) (ha:w.cell? a=some (.pointer (some t))) (ht:w.cell? t=some old) (hf:w.frozen? t=false):
 Calls Tryz.prog 296 #[.iface 324 (.agg #[.iface 324 (.agg #[.iface 326 (.agg #[.int .i64 p])])]),tg,.agg #[.pointer (some ⟨6,328,none⟩),.pointer (some a),.int .u64 150],.iface 377 (.agg #[.pointer (some ⟨6,326,none⟩)])] w
  λe w'=>e= .returned (.bool true)/\Below t.block w w':=by
 open aBs in exact av9
set_option maxHeartbeats 2000000
set_option maxRecDepth 100000
open Go.RowKit Go.Extern.Stop Go.Stop Go.Extern
theorem PV (err:Value) (tb:Nat) (old:Value) (w:World) (hne:∃v,err= .iface 324 v)
 (has:∀(tg:Value) (t a:Addr) (old:Value) (w:World),w.cell? a=some (.pointer (some t))->w.cell? t=some old->w.frozen? t=false->
  Calls Tryz.prog 296 #[err,tg,.agg #[.pointer (some ⟨6,328,none⟩),.pointer (some a),.int .u64 150],.iface 377 (.agg #[.pointer (some ⟨6,326,none⟩)])] w λe w'=>e= .returned (.bool true)/\Below t.block w w')
 (hg:w.cell? ⟨0,0,none⟩=some (.iface 377 (.agg #[.pointer (some ⟨6,284,none⟩)])))
 (ht:w.cell? ⟨tb,0,none⟩=some old) (hf:w.frozen? ⟨tb,0,none⟩=false):
 Calls Tryz.prog 273 #[err,.iface 328 (.pointer (some ⟨tb,0,none⟩))] w λe w'=>e= .returned (.bool true)/\Below tb w w':=by
 obtain⟨v,rfl⟩:=hne;have HAS:=Hq has;clear has;open avF in exact ahy
def Handle (w:World):Prop:=w.cell? ⟨0,0,none⟩=some (.iface 377 (.agg #[.pointer (some ⟨6,284,none⟩)]))
theorem Handle.below {w w':World} (h:Handle w) (hb:aG w w'):Handle w':=by
 have hl:=World.lt_of_cell h;unfold Handle;rw [hb.cell (p:=⟨0,0,none⟩) hl];exact h
theorem QA (w:World):Calls Tryz.prog 235 #[.nilIface] w (dK w (.bool false)):=by
 go_in
 go_wp2_with (go_at_call 273;refine(aks _ _).mono ?_;rintro e w' ⟨rfl,rfl⟩)
 go_ret;exact⟨rfl,(aEK _ _).alloc (aEx _) _⟩
theorem QB (p:Int) (w:World) (h:Handle w):Calls Tryz.prog 235 #[.iface 324 (.agg #[.iface 326 (.agg #[.int .i64 p])])] w (dK w (.bool true)):=by
 open avu in exact ahw
theorem acH (p:Int) (w:World) (h:Handle w):Calls Tryz.prog 235 #[.iface 324 (.agg #[.iface 324 (.agg #[.iface 326 (.agg #[.int .i64 p])])])] w (dK w (.bool true)):=by
 open avt in exact ahw
open Go
theorem Bh {H:Type} {enc:TypeId×Value->H} {P:Program} {w:World} {sp:Nat->Bool}:∀{ns:List String} {gs:List (DataW H)} {ps:List MemPlace},DataW.TrodVars enc P w sp ns gs ps->gs.length=ns.length
 |[],[],_,_=>rfl
 |[],_::_,_,h=>h.elim
 |_::_,[],_,h=>h.elim
 |_::ns,_::ds,_,h=>by
  obtain⟨_,_,_,_,_,_,_,_,_,_,hs,_⟩:=h
  have:=Bh hs
  simp[this]
theorem Vu {α:Type} {gs:List α} (h:gs.length=5):∃a b c d e,gs=[a,b,c,d,e]:=by
 match gs,h with
 |[a,b,c,d,e],_=>exact⟨a,b,c,d,e,rfl⟩
end Go.Proofs.YtfachhcijcjbpaaGreatDoor
