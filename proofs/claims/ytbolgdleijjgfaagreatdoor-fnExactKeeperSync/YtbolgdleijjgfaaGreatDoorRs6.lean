/- Parts. -/
import Derived.Test.YtbolgdleijjgfaaGreatDoorRs1
namespace Go.Proofs.YtbolgdleijjgfaaGreatDoor
open Go.Proofs.Tryz
set_option maxRecDepth 100000
open Go.RowKit Go.Extern.Stop Go.Stop Go.Extern
open Mth
variable (v:Value) (xT:TypeId) (w:World) {E:Nat->Addr} {P:Program}
structure gY (w:World) (E:Nat->Addr):Prop where
 var:∀i,(1<=i/\i < 6)->w.cell? ⟨i,0,none⟩=some (.iface 374 (.pointer (some (E i))))
 row:∀i,(1<=i/\i < 6)->∃c t,w.heap[(E i).block]?=some (.cells c t (0,0))
 ne:∀i j,(1<=i/\i < 6)->(1<=j/\j < 6)->i≠j->E i≠E j
theorem gY.below {w w':World} (h:gY w E) (hb:aH w w'):gY w' E:=by
 refine⟨λi hi=>?_,λi hi=>?_,h.ne⟩
 .rw [hb.cell (p:=⟨i,0,none⟩) (aFO _ _ (h.var i hi))];exact h.var i hi
 .obtain⟨c,t,hc⟩:=h.row i hi;refine⟨c,t,?_⟩;rw [hb.block _ ?_]
  .exact hc
  .rcases aFX (E i).block w.heap.size with h'|h'
   .exact h'
   .rw [aFJ h'] at hc;cases hc
abbrev uJ (a:Addr):Value:= .iface 374 (.pointer (some a))
namespace Is
theorem typeOf (v:Value) (w:World):(Extern.ReflectliteType.typeOf #[.iface 374 v]).run Tryz.prog w= .ok (.iface 340 (.agg #[.pointer (some ⟨6,374,none⟩)])) w:=Aab
def cmp:Array Value->Sem Value:=Extern.ReflectliteType.method λt=>do Extern.Rtype.noPackHeld "Comparable" t;pure (.bool (<-typeInfo t).comparable)
theorem comparable (w:World):(cmp #[.agg #[.pointer (some ⟨6,374,none⟩)]]).run Tryz.prog w= .ok (.bool true) w:=Aab
theorem methodComparable (v:Value) (w:World):(Go.method 503 340 v "Comparable").run Tryz.prog w= .ok (351,v) w:=Aab
theorem comp:(Tryz.prog.info? 374).map (·.comparable)=some true:=Aab
theorem size:(Tryz.prog.info? 392).map (·.size)=some 1:=Aab
theorem noIs:(Instr.typeAssert (.iface 374 v) xT 368 true).run Tryz.prog w= .ok (.tuple #[.nilIface,.bool false]) w:=run_typeAssert_lacksB Tryz.underlying368 Aab Aab v xT w
theorem noUnwrap:(Instr.typeAssert (.iface 374 v) xT 348 true).run Tryz.prog w= .ok (.tuple #[.nilIface,.bool false]) w:=run_typeAssert_lacksB Tryz.underlying348 Aab Aab v xT w
theorem noUnwraps:(Instr.typeAssert (.iface 374 v) xT 350 true).run Tryz.prog w= .ok (.tuple #[.nilIface,.bool false]) w:=run_typeAssert_lacksB Tryz.underlying350 Aab Aab v xT w
end Is
theorem afs (a:Addr) (w:World):Calls Tryz.prog 295 #[uJ a,uJ a] w λe w'=>e= .returned (.bool true)/\w=w':=by
 open aqC in exact aw0
theorem ale (b:Addr) (w:World):Calls Tryz.prog 295 #[.nilIface,uJ b] w λe w'=>e= .returned (.bool false)/\w=w':=by
 have hn:=run_eql_iface_nil_left (P:=Tryz.prog) w 374 (.pointer (some b)) Tryz.underlying247;go_in
 go_wp2
 go_ret;exact⟨rfl,rfl⟩
theorem acD (a b:Addr) (ca cb:Array Value) (ta tb:TypeId) (w:World) (hne:a≠b) (ha:w.heap[a.block]?=some (.cells ca ta (0,0))) (hb:w.heap[b.block]?=some (.cells cb tb (0,0))):
 Calls Tryz.prog 295 #[uJ a,uJ b] w λe w'=>e= .returned (.bool false)/\w=w':=by
 open aqB in exact aw0
theorem ajc {w:World} {E:Nat->Addr} (h:gY w E) (i j:Nat) (b:Bool) (hi:(1<=i/\i < 6)) (hj:(1<=j/\j < 6)) (hb:(i == j)=b):Calls Tryz.prog 295 #[uJ (E i),uJ (E j)] w λe w'=>e= .returned (.bool b)/\w=w':=by
 cases b with
 |true=>
  have e:i=j:=by simpa using hb
  subst e;exact afs (E i) w
 |false=>
  obtain⟨c1,t1,h1⟩:=h.row i hi;obtain⟨c2,t2,h2⟩:=h.row j hj;exact acD (E i) (E j) c1 c2 t1 t2 w (h.ne i j hi hj (by simpa using hb)) h1 h2
set_option maxHeartbeats 2000000
set_option maxRecDepth 100000
open Go.RowKit
theorem I7 {w:World} (h:gY w E):Calls Tryz.prog 274 #[.nilIface] w λe w'=>e= .returned (.bool false)/\w=w':=by
 have v0:=h.var 1 Aaa;have v1:=h.var 2 Aaa;have v2:=h.var 3 Aaa;have v3:=h.var 4 Aaa;have v4:=h.var 5 Aaa;have HE:=Hq h;clear h;go_in
 go_wp2_with (go_at_call 295;refine(ale _ _).mono ?_;rintro e w1 ⟨rfl,rfl⟩)
 go_ret;exact⟨rfl,rfl⟩
theorem MF {w:World} (h:gY w E) (i:Nat) (hi:(1<=i/\i < 6)):Calls Tryz.prog 274 #[uJ (E i)] w λe w'=>e= .returned (.bool true)/\w=w':=by
 have v0:=h.var 1 Aaa;have v1:=h.var 2 Aaa;have v2:=h.var 3 Aaa;have v3:=h.var 4 Aaa;have v4:=h.var 5 Aaa;have HE:=Hq h;clear h;have h5:i=1\/i=2\/i=3\/i=4\/i=5:=Aaa
 rcases h5 with rfl|rfl|rfl|rfl|rfl
 all_goals
  go_in
  go_wp2_with (go_at_call 295;first|(refine(ajc HE _ _ true Aaa Aaa Aae).mono ?_;rintro e w1 ⟨rfl,rfl⟩)|(refine(ajc HE _ _ false Aaa Aaa Aae).mono ?_;rintro e w1 ⟨rfl,rfl⟩))
  go_ret
  exact⟨rfl,rfl⟩
open Mth
theorem kK (w:World) (base:Nat) (t ty e:TypeId) (i:TypeInfo) (z:Value) (size bytes:Nat) (ht:P.underlying t=some (.slice e)) (hi:P.info? e=some i) (hz:i.zero=some z) (hsize:i.size=size) (hby:i.bytes=bytes) (hzs:z.cells.size=size) (hsz:0 < size) (v:Value) (n:Nat) (xs:List Value) (hown:w.ownsRow base e size v n xs) (a:Addr) (m c:Nat) (news:List Value) (hl:news.length=m*size) (hnews:∀j u,news[j]?=some u->w.cell? (a.add j)=some u) (h1:∀u∈news,u.oneCell'=true) (h63:n+m<=maxLen) (hbytes:(n+m)*bytes<=140737488355328) (hbase:base<=w.heap.size):
 ∃v' w',(Builtin.append_ #[t,t] ty #[v,.slice (some a) m c]).run P w= .ok v' w'/\w'.ownsRow base e size v' (n+m) (xs++news)/\w.grownBy w' v.ownBlock/\
  ∀x,v'.ownBlock=some x->v.ownBlock=some x\/w.heap.size<=x:=by
 obtain⟨v',w',hr,ho,hg,_⟩:=run_append_own w base t ty e i z size bytes ht hi hz hsize hby hzs hsz v n xs hown a m c news hl hnews h1 h63 hbytes hbase;refine⟨v',w',hr,ho,hg,λx hx=>?_⟩;have hsmall:n+m<=9223372036854775807:=by simp only[maxLen] at h63;omega
 rcases hown.2 with⟨rfl,rfl⟩|⟨g,cap,cur,rfl,hbg,hgg,hnc,hcm,hcs,htake⟩
 .have hxs:xs=[]:=aFg (by simpa using hown.1);subst hxs;obtain⟨v2,w2,hr2,ho2,_,_⟩:=run_append_own w w.heap.size t ty e i z size bytes ht hi hz hsize hby hzs hsz (.slice none 0 0) 0 [] (World.ownsRow_nil w _ e size) a m c news hl hnews h1 h63 hbytes (aEM _);have he:=hr.symm.trans hr2;simp only[Result.ok.injEq] at he;obtain⟨rfl,rfl⟩:=he;exact .inr (ho2.lt x hx).1
 .subst hsize;subst hby;by_cases hroom:n+m<=cap
  .have hfit:n*i.size+news.length<=cur.size:=by rw [hl,hcs,<-aGx];exact aGe _ hroom
   have hr2:=run_append_room (P:=P) w t ty e i ht hi g n cap cur hgg a m c news hl hnews h1 hroom hfit;have he:=hr.symm.trans hr2;simp only[Result.ok.injEq] at he;obtain⟨rfl,_⟩:=he;exact .inl hx
  .have holds:∀j u,xs[j]?=some u->w.cell? ((⟨g,0,none⟩:Addr).add j)=some u:=hown.cells (g:=g) rfl;have hr2:=run_append_grow (P:=P) w t ty e i z ht hi hz ⟨g,0,none⟩ n cap xs hown.1 holds a m c news hl hnews Aaa Aaa (growslice_fits Aaa hbytes);have he:=hr.symm.trans hr2;simp only[Result.ok.injEq] at he;obtain⟨rfl,_⟩:=he;have:w.heap.size=x:=Abl
   exact .inr Aaa
theorem pE (w:World) {o:Oper} {a:Act} {K:Act->World->Prop} {Q:Exit->Act->World->Prop} (s x:Operand) (t:TypeId)
 (ho:o.op= .call {callee:= .builtin .append,args:=#[s,x],argTypes:=#[t,t]})
 (base:Nat) (e:TypeId) (i:TypeInfo) (z:Value) (size bytes:Nat) (ht:P.underlying t=some (.slice e)) (hi:P.info? e=some i) (hz:i.zero=some z)
 (hsize:i.size=size) (hby:i.bytes=bytes) (hzs:z.cells.size=size) (hsz:0 < size)
 (v:Value) (n:Nat) (xs:List Value) (hs:a.eval s=v) (hown:w.ownsRow base e size v n xs)
 (ad:Addr) (m c:Nat) (news:List Value) (hx:a.eval x= .slice (some ad) m c) (hl:news.length=m*size) (hnews:∀j u,news[j]?=some u->w.cell? (ad.add j)=some u) (h1:∀u∈news,u.oneCell'=true)
 (h63:n+m<=maxLen) (hbytes:(n+m)*bytes<=140737488355328) (hbase:base<=w.heap.size)
 (h:∀v' w',w'.ownsRow base e size v' (n+m) (xs++news)->w.grownBy w' v.ownBlock->(∀x,v'.ownBlock=some x->v.ownBlock=some x\/w.heap.size<=x)->K (a.put o.dst v') w'):o.wp P a w K Q:=by
 obtain⟨v',w',hr,h2,h3,h4⟩:=kK w base t o.type e i z size bytes ht hi hz hsize hby hzs hsz v n xs hown ad m c news hl hnews h1 h63 hbytes hbase;exact aGJ w s x t t ho _ _ hs hx v' w' hr (h v' w' h2 h3 h4)
end Go.Proofs.YtbolgdleijjgfaaGreatDoor
namespace Go.Proofs
open Go.Shelf YtbolgdleijjgfaaGreatDoor
def Tryz.keysL_ren:Go.Shelf.Ren:=⟨fun|7=>281|10=>298|n=>n,fun|23=>304|26=>3|3=>107|28=>312|0=>0|27=>311|33=>144|4=>4|n=>n,fun|n=>n⟩
theorem Tryz.keysL:Go.Proofs.SlLaysZI.n7 Tryz.prog Tryz.keysL_ren:={
 mixed:=Aab
 f7:=⟨Tryz.f281.name,Aae,Tryz.func281.trans (congrArg some Aab)⟩
 f10:=⟨Tryz.f298.name,Aae,Tryz.func298.trans (congrArg some Aab)⟩
 t0:=Tryz.underlying0
 a0:=Tryz.isAgg0
 z0:=Tryz.sizeOf0
 v0:=Tryz.zeroValue0
 t4:=Tryz.underlying4
 a4:=Tryz.isAgg4
 z4:=Tryz.sizeOf4
 v4:=Tryz.zeroValue4
 t23:=Tryz.underlying304
 a23:=Tryz.isAgg304
 z23:=Tryz.sizeOf304
 v23:=Tryz.zeroValue304
 t26:=Tryz.underlying3
 a26:=Tryz.isAgg3
 z26:=Tryz.sizeOf3
 v26:=Tryz.zeroValue3
 t27:=Tryz.underlying311
 a27:=Tryz.isAgg311
 z27:=Tryz.sizeOf311
 v27:=Tryz.zeroValue311
 t28:=Tryz.underlying312
 a28:=Tryz.isAgg312
 z28:=Tryz.sizeOf312
 v28:=Tryz.zeroValue312
 t33:=Tryz.underlying144
 a33:=Tryz.isAgg144
 z33:=Tryz.sizeOf144
 v33:=Tryz.zeroValue144}
def Tryz.sortedL_ren:Go.Shelf.Ren:=⟨fun|6=>280|8=>297|9=>209|11=>309|13=>228|12=>227|23=>264|24=>265|14=>255|15=>256|16=>257|17=>258|18=>259|19=>260|20=>261|21=>262|22=>263|25=>282|26=>283|27=>284|28=>285|29=>286|30=>287|31=>299|n=>n,fun|26=>3|28=>312|24=>22|0=>0|3=>3|37=>204|48=>109|50=>283|4=>4|40=>275|39=>274|45=>235|5=>5|9=>9|51=>314|55=>318|57=>337|58=>173|33=>144|n=>n,fun|n=>n⟩
theorem Tryz.sortedL:Go.Proofs.SlLaysZI.n6 Tryz.prog Tryz.sortedL_ren:={
 mixed:=Aab
 f6:=⟨Tryz.f280.name,Aae,Tryz.func280.trans (congrArg some Aab)⟩
 f8:=⟨Tryz.f297.name,Aae,Tryz.func297.trans (congrArg some Aab)⟩
 f11:=⟨Tryz.f309.name,Aae,Tryz.func309.trans (congrArg some Aab)⟩
 t0:=Tryz.underlying0
 a0:=Tryz.isAgg0
 z0:=Tryz.sizeOf0
 v0:=Tryz.zeroValue0
 t24:=Tryz.underlying22
 a24:=Tryz.isAgg22
 z24:=Tryz.sizeOf22
 v24:=Tryz.zeroValue22
 t26:=Tryz.underlying3
 a26:=Tryz.isAgg3
 z26:=Tryz.sizeOf3
 v26:=Tryz.zeroValue3
 t28:=Tryz.underlying312
 a28:=Tryz.isAgg312
 z28:=Tryz.sizeOf312
 v28:=Tryz.zeroValue312
 i26:=by kernel_rfl}
end Go.Proofs
namespace Go.Proofs.YtbolgdleijjgfaaGreatDoor
open Go.Proofs.Tryz
open Go.RowKit Go.Extern.Stop Go.Stop Go.Extern
theorem akp (t:Value) (w:World):
 Calls prog 268 #[.nilIface,t] w λe w'=>e= .returned (.bool false)/\w=w':=by
 go_in
 go_wp2
 go_ret;exact⟨rfl,rfl⟩
namespace As
theorem valueOfPtr (t:Addr) (w:World):(ReflectliteValue.unpack (.iface 291 (.pointer (some t)))).run Tryz.prog w
 = .ok (.agg #[.pointer (some ⟨6,291,none⟩),.pointer (some ⟨w.heap.size,0,none⟩),.int .u64 150]) (w.alloc (.cells #[.pointer (some t)] 291)):=Aab
theorem typePtr (a:Addr) (w:World):(ReflectliteValue.methodAny (ReflectliteValue.valueError "reflectlite.Value.Type" 0) (λt _ _ _=>ReflectliteType.toType t) #[.agg #[.pointer (some ⟨6,291,none⟩),.pointer (some a),.int .u64 150]]).run Tryz.prog w
 = .ok (.iface 340 (.agg #[.pointer (some ⟨6,291,none⟩)])) w:=Aab
theorem methodKind (h:Value) (w:World):(Go.method 503 340 (.agg #[h]) "Kind").run Tryz.prog w= .ok (334,h) w:=Aab
theorem methodElem (h:Value) (w:World):(Go.method 503 340 (.agg #[h]) "Elem").run Tryz.prog w= .ok (352,.agg #[h]) w:=Aab
theorem methodImplements (h:Value) (w:World):(Go.method 503 340 (.agg #[h]) "Implements").run Tryz.prog w= .ok (353,.agg #[h]) w:=Aab
theorem methodAssignableTo (h:Value) (w:World):(Go.method 503 340 (.agg #[h]) "AssignableTo").run Tryz.prog w= .ok (350,.agg #[h]) w:=Aab
theorem methodUnwrap (h:Value) (w:World):(Go.method 503 287 (.agg #[h]) "Unwrap").run Tryz.prog w= .ok (340,.agg #[h]) w:=Aab
theorem kindPtr (w:World):((ReflectliteType.abiMethod λt=>(λa:Nat=>Value.int IntKind.u8 (a:Int)) <$> Rtype.kind t) #[.pointer (some ⟨6,291,none⟩)]).run Tryz.prog w= .ok (.int .u8 22) w:=Aab
theorem kindStruct (w:World):((ReflectliteType.abiMethod λt=>(λa:Nat=>Value.int IntKind.u8 (a:Int)) <$> Rtype.kind t) #[.pointer (some ⟨6,289,none⟩)]).run Tryz.prog w= .ok (.int .u8 25) w:=Aab
theorem rlm (z:Sem Value) (f:TypeId->Addr->Nat->Nat->Sem Value) (v:Value):
 ReflectliteValue.method z f #[v]=(do match<-ReflectliteValue.parts v with|none=>z|some (t,a,fl)=>f t a fl (fl % 32)):=rfl
theorem QF (a:Addr) (w:World):(ReflectliteValue.parts (.agg #[.pointer (some ⟨6,291,none⟩),.pointer (some a),.int .u64 150])).run Tryz.prog w= .ok (some (291,a,150)) w:=Aab
theorem isNil (a p:Addr) (W:World) (ha:W.cell? a=some (.pointer (some p))):
 (ReflectliteValue.method (ReflectliteValue.valueError "reflectlite.Value.IsNil" 0) ReflectliteValue.isNil #[.agg #[.pointer (some ⟨6,291,none⟩),.pointer (some a),.int .u64 150]]).run Tryz.prog W= .ok (.bool false) W:=by
 rw [rlm];simp only[Sem.run_bind,QF,Result.andThen];simp[ReflectliteValue.isNil,loadVar,isAgg,underlying,Tryz.underlying291,ha,Result.andThen]
theorem elemType (w:World):(ReflectliteType.method ReflectliteType.elem #[.agg #[.pointer (some ⟨6,291,none⟩)]]).run Tryz.prog w= .ok (.iface 340 (.agg #[.pointer (some ⟨6,289,none⟩)])) w:=Aab
theorem implements (w:World):(ReflectliteType.relation "Implements" ReflectliteType.implements_ #[.agg #[.pointer (some ⟨6,289,none⟩)],.iface 340 (.agg #[.pointer (some ⟨6,247,none⟩)])]).run Tryz.prog w= .ok (.bool true) w:=Aab
theorem typeOfNo (v:Value) (w:World):(ReflectliteType.typeOf #[.iface 289 v]).run Tryz.prog w= .ok (.iface 340 (.agg #[.pointer (some ⟨6,289,none⟩)])) w:=Aab
theorem typeOfUnread (v:Value) (w:World):(ReflectliteType.typeOf #[.iface 287 v]).run Tryz.prog w= .ok (.iface 340 (.agg #[.pointer (some ⟨6,287,none⟩)])) w:=Aab
theorem assignNo (w:World):(ReflectliteType.relation "AssignableTo" ReflectliteType.assignableTo #[.agg #[.pointer (some ⟨6,289,none⟩)],.iface 340 (.agg #[.pointer (some ⟨6,289,none⟩)])]).run Tryz.prog w= .ok (.bool true) w:=Aab
theorem assignUnread (w:World):(ReflectliteType.relation "AssignableTo" ReflectliteType.assignableTo #[.agg #[.pointer (some ⟨6,287,none⟩)],.iface 340 (.agg #[.pointer (some ⟨6,289,none⟩)])]).run Tryz.prog w= .ok (.bool false) w:=Aab
theorem valueOfNo (p:Int) (w:World):(ReflectliteValue.unpack (.iface 289 (.agg #[.int .i64 p]))).run Tryz.prog w
 = .ok (.agg #[.pointer (some ⟨6,289,none⟩),.pointer (some ⟨w.heap.size,0,none⟩),.int .u64 153]) (w.alloc (.cells #[.int .i64 p] 289)):=Aab
theorem elemOf (w:World):(Rtype.elem? 291).run Tryz.prog w= .ok (some 289) w:=Aab
theorem aCU (p:Addr) (w:World):(ReflectliteValue.mk 289 p ReflectliteValue.flagAddr).run Tryz.prog w= .ok (.agg #[.pointer (some ⟨6,289,none⟩),.pointer (some p),.int .u64 409]) w:=Aab
theorem elemV (a p:Addr) (W:World) (ha:W.cell? a=some (.pointer (some p))):
 (ReflectliteValue.method (ReflectliteValue.valueError "reflectlite.Value.Elem" 0) ReflectliteValue.elem #[.agg #[.pointer (some ⟨6,291,none⟩),.pointer (some a),.int .u64 150]]).run Tryz.prog W
  = .ok (.agg #[.pointer (some ⟨6,289,none⟩),.pointer (some p),.int .u64 409]) W:=by
 rw [rlm];simp only[Sem.run_bind,QF,Result.andThen];simp[ReflectliteValue.elem,loadVar,isAgg,underlying,Tryz.underlying291,ha,Result.andThen,elemOf,aCU]
theorem adb (a:Addr) (w:World):(ReflectliteValue.parts (.agg #[.pointer (some ⟨6,289,none⟩),.pointer (some a),.int .u64 409])).run Tryz.prog w= .ok (some (289,a,409)) w:=Aab
theorem afK (a:Addr) (w:World):(ReflectliteValue.parts (.agg #[.pointer (some ⟨6,289,none⟩),.pointer (some a),.int .u64 153])).run Tryz.prog w= .ok (some (289,a,153)) w:=Aab
theorem abB (w:World):(Rtype.directlyAssignable 289 289).run Tryz.prog w= .ok true w:=Aab
end As
open Go.RowKit Go.Extern.Stop Go.Stop Go.Extern
namespace As
theorem rls (v x:Value):ReflectliteValue.set #[v,x]=(do
 let(some (dst,a,fl),some (src,b,_)):=(<-ReflectliteValue.parts v,<-ReflectliteValue.parts x)
  |unsupported (.noEntry "extern/(internal/reflectlite.Value).Set.zeroValue")
 if fl / ReflectliteValue.flagAddr % 2 == 0 then unsupported (.noEntry "extern/(internal/reflectlite.Value).Set.unaddressable")
 let val<-loadVar src b
 if<-Rtype.directlyAssignable dst src then storeVar dst a val
 else if<-Rtype.implements dst src then
  if (<-Rtype.kind src) == 20 then
   match val with
   | .nilIface=>unsupported (.noEntry "extern/reflectlite: a nil value of one interface type handed on as a value of another")
   |_=>storeVar dst a val
  else storeVar dst a (.iface src val)
 else panicString ("reflectlite.Set: value of type " ++(<-Rtype.spelt src)++ " is not assignable to type " ++(<-Rtype.spelt dst))
 pure (.tuple #[])):=rfl
theorem setNo (ta b:Addr) (p:Int) (old:Value) (W:World) (hb:W.cell? b=some (.int .i64 p)) (ht:W.cell? ta=some old) (hf:W.frozen? ta=false):
 (ReflectliteValue.set #[.agg #[.pointer (some ⟨6,289,none⟩),.pointer (some ta),.int .u64 409],.agg #[.pointer (some ⟨6,289,none⟩),.pointer (some b),.int .u64 153]]).run Tryz.prog W
  = .ok (.tuple #[]) (W.setCell ta (.int .i64 p)):=by
 rw [rls];simp only[Sem.run_bind,adb,afK,Result.andThen]
 have hl:(loadCells b 1).run Tryz.prog W= .ok #[.int .i64 p] W:=run_loadCells_list W b [.int .i64 p] (λj v hj=>by
  match j,hj with
  |0,hj=>simp at hj;subst hj;simpa [Addr.add] using hb)
 simp[ReflectliteValue.flagAddr,loadVar,isAgg,underlying,Tryz.underlying289,hl,Result.andThen,abB,storeVar,Value.cells,storeCells,Addr.add];rw [run_store Tryz.prog W ta _ _ Aad];simp[ht,hf]
end As
set_option maxHeartbeats 2000000
set_option maxRecDepth 100000
open Go.RowKit Go.Extern.Stop Go.Stop Go.Extern
namespace As
theorem noAs (v:Value) (xT:TypeId) (w:World):(Instr.typeAssert (.iface 287 v) xT 345 true).run Tryz.prog w= .ok (.tuple #[.nilIface,.bool false]) w:=run_typeAssert_lacksB Tryz.underlying345 Aab Aab v xT w
theorem hasUnwrap (v:Value) (xT:TypeId) (w:World):(Instr.typeAssert (.iface 287 v) xT 348 true).run Tryz.prog w= .ok (.tuple #[.iface 287 v,.bool true]) w:=run_typeAssert_hasB Tryz.underlying348 Aab v xT w
def no (p:Int):Value:= .iface 289 (.agg #[.int .i64 p])
def un (e:Value):Value:= .iface 287 (.agg #[e])
end As
theorem World.lt_of_cell {w:World} {a:Addr} {v:Value} (h:w.cell? a=some v):a.block < w.heap.size:=by
 rcases aFX a.block w.heap.size with h'|h'
 .exact h'
 .simp[World.cell?,aFJ h'] at h
theorem akq (p:Int) (tg:Value) (t a:Addr) (old:Value) (w:World) (ha:w.cell? a=some (.pointer (some t))) (ht:w.cell? t=some old) (hf:w.frozen? t=false):
 Calls Tryz.prog 291 #[.iface 287 (.agg #[.iface 289 (.agg #[.int .i64 p])]),tg,.agg #[.pointer (some ⟨6,291,none⟩),.pointer (some a),.int .u64 150],.iface 340 (.agg #[.pointer (some ⟨6,289,none⟩)])] w
  λe w'=>e= .returned (.bool true)/\Below t.block w w':=by
 open aBL in exact awC
theorem akr (p:Int) (tg:Value) (t a:Addr) (old:Value) (w:World) (ha:w.cell? a=some (.pointer (some t))) (ht:w.cell? t=some old) (hf:w.frozen? t=false):
 Calls Tryz.prog 291 #[.iface 287 (.agg #[.iface 287 (.agg #[.iface 289 (.agg #[.int .i64 p])])]),tg,.agg #[.pointer (some ⟨6,291,none⟩),.pointer (some a),.int .u64 150],.iface 340 (.agg #[.pointer (some ⟨6,289,none⟩)])] w
  λe w'=>e= .returned (.bool true)/\Below t.block w w':=by
 open aBK in exact awC
set_option maxHeartbeats 2000000
set_option maxRecDepth 100000
open Go.RowKit Go.Extern.Stop Go.Stop Go.Extern
theorem Po (err:Value) (tb:Nat) (old:Value) (w:World) (hne:∃v,err= .iface 287 v)
 (has:∀(tg:Value) (t a:Addr) (old:Value) (w:World),w.cell? a=some (.pointer (some t))->w.cell? t=some old->w.frozen? t=false->
  Calls Tryz.prog 291 #[err,tg,.agg #[.pointer (some ⟨6,291,none⟩),.pointer (some a),.int .u64 150],.iface 340 (.agg #[.pointer (some ⟨6,289,none⟩)])] w λe w'=>e= .returned (.bool true)/\Below t.block w w')
 (hg:w.cell? ⟨0,0,none⟩=some (.iface 340 (.agg #[.pointer (some ⟨6,247,none⟩)])))
 (ht:w.cell? ⟨tb,0,none⟩=some old) (hf:w.frozen? ⟨tb,0,none⟩=false):
 Calls Tryz.prog 268 #[err,.iface 291 (.pointer (some ⟨tb,0,none⟩))] w λe w'=>e= .returned (.bool true)/\Below tb w w':=by
 obtain⟨v,rfl⟩:=hne;have HAS:=Hq has;clear has;open awg in exact ahv
def Handle (w:World):Prop:=w.cell? ⟨0,0,none⟩=some (.iface 340 (.agg #[.pointer (some ⟨6,247,none⟩)]))
theorem Handle.below {w w':World} (h:Handle w) (hb:aH w w'):Handle w':=by
 have hl:=World.lt_of_cell h;unfold Handle;rw [hb.cell (p:=⟨0,0,none⟩) hl];exact h
theorem Qk (w:World):Calls Tryz.prog 230 #[.nilIface] w (dM w (.bool false)):=by
 go_in
 go_wp2_with (go_at_call 268;refine(akp _ _).mono ?_;rintro e w' ⟨rfl,rfl⟩)
 go_ret;exact⟨rfl,(aEY _ _).alloc (aEM _) _⟩
theorem Ql (p:Int) (w:World) (h:Handle w):Calls Tryz.prog 230 #[.iface 287 (.agg #[.iface 289 (.agg #[.int .i64 p])])] w (dM w (.bool true)):=by
 open av0 in exact aht
theorem acC (p:Int) (w:World) (h:Handle w):Calls Tryz.prog 230 #[.iface 287 (.agg #[.iface 287 (.agg #[.iface 289 (.agg #[.int .i64 p])])])] w (dM w (.bool true)):=by
 open avZ in exact aht
open Go.RowKit
theorem aB2:Tryz.prog.globalNamed "errors.errorType" =some 0:=Aab
theorem alp:(Tryz.prog.cutTypes.find? (·.1 == "internal/reflectlite.rtype")).map (·.2)=some 340:=Aab
theorem alk:((List.range 403).filter λt=>Tryz.prog.rowNamed t [101,114,114,111,114])=[247]:=Aab
theorem ZO:Tryz.prog.types.size=403:=Aab
theorem Ym {l:List (String×DataW Unit)} {W:World} (h:handlesMet Tryz.prog l W) (hm:("errors.errorType",Rows.laid_errors_errorType)∈l):Handle W:=by
 obtain⟨name,u,ty,e1,e2,e3,e4,e5⟩:=h _ hm;have en:name=[101,114,114,111,114]:=(aFD e1).symm;subst en;obtain rfl:=aFD (alp.symm.trans e2);have hm:ty∈(List.range 403).filter λt=>Tryz.prog.rowNamed t [101,114,114,111,114]:=aGG.2 ⟨aFP.2 (by rw [<-ZO];exact e3),e4⟩
 rw [alk] at hm;obtain rfl:=aE3.1 hm;have hh:typeHandle Tryz.prog 247= .pointer (some ⟨6,247,none⟩):=Aab
 rw [hh] at e5;have:=World.var?_cell aB2 e5 0;unfold Handle;simpa using this
theorem TJ:(Tryz.prog.globals[3]?).map (·.type)=some 247:=Aab
theorem afg:(Tryz.prog.globals[1]?).map (·.type)=some 247:=Aab
theorem TI:(Tryz.prog.globals[2]?).map (·.type)=some 247:=Aab
theorem aff:(Tryz.prog.globals[4]?).map (·.type)=some 247:=Aab
theorem abO:(Tryz.prog.globals[5]?).map (·.type)=some 247:=Aab
theorem Yi:Tryz.prog.globalNamed "loop.example/g00264/impl.errNoPurses" =some 3:=Aab
theorem akE:Tryz.prog.globalNamed "loop.example/g00264/impl.errNoKey" =some 1:=Aab
theorem Yh:Tryz.prog.globalNamed "loop.example/g00264/impl.errNoAmount" =some 2:=Aab
theorem akD:Tryz.prog.globalNamed "loop.example/g00264/impl.errFewer" =some 4:=Aab
theorem afe:Tryz.prog.globalNamed "loop.example/g00264/impl.errBeyond" =some 5:=Aab
theorem abw:Tryz.prog.cellsOf 392=1:=Aab
theorem abx:Tryz.prog.cellsOf 9=1:=Aab
theorem Xl: "*" ++ "errors.errorString" = "*errors.errorString" :=Aae
theorem alo (u:TypeId) (h:Tryz.prog.typeName? 3 u=some "*errors.errorString"):u=374:=
 typeName_ptr_named (nm:= "errors.errorString") (by rw [Xl];kernel_rfl) Aab Aae u (by rw [Xl];exact h)
theorem QZ {n:String} {text:List UInt8} {r:List (String×DataW Unit)} {W:World} {g:Nat} (h:laidMet Tryz.prog ((n,.iface "*errors.errorString" (.ptr (.agg [.lit (.string text)])))::r) W)
 (hg:Tryz.prog.globalNamed n=some g) (ht:(Tryz.prog.globals[g]?).map (·.type)=some 247):
 ∃(a:Addr) (s:ByteArray) (c:Array Value) (t:TypeId),W.cell? ⟨g,0,none⟩=some (uJ a)/\W.cell? a=some (.string s)/\s.data.toList=text/\W.heap[a.block]?=some (.cells c t (0,0)):=by
 obtain⟨ps,⟨g0',t0',cs0,f0,p0,q0,hg0',ht0',hv0,hd0,_,e0⟩,hnd,hrows⟩:=h;obtain rfl:=aFD (hg.symm.trans hg0');obtain rfl:=aFD (ht.symm.trans ht0');subst e0;obtain⟨l0⟩:=cs0
 have ok0:∀u v,l0=[.iface u v]->Value.okWide Tryz.prog W .any 0 u v:=λu v e=>by
  subst e
  exact(hrows g 0 (by simp[MemPlace.row])).2 u v (by simpa using World.var?_cell hg0' hv0 0)
 obtain⟨a0,s0,rfl,hc0,hs0,hz0,rfl⟩:=errorString_of_trod Tryz.underlying247 alo Tryz.underlying374 Tryz.underlying392 rfl rfl Tryz.underlying9 abw abx hd0 ok0;obtain⟨c0,t0,hb0⟩:=(hrows a0.block a0.off (by simp[MemPlace.row])).1;exact⟨a0,s0,c0,t0,by simpa using World.var?_cell hg0' hv0 0,hc0,hs0,hb0⟩
theorem apart {W:World} {a b:Addr} {s t:ByteArray} (ha:W.cell? a=some (.string s)) (hb:W.cell? b=some (.string t)) (hne:s.data.toList≠t.data.toList):a≠b:=λe=>by
 rw [e,hb] at ha;iterate 2 (injection ha with ha)
 exact hne (by rw [ha])
theorem abH {W:World} (h:laidMet Tryz.prog [("loop.example/g00264/impl.errNoPurses",Rows.laid_loop_example_g00264_impl_errNoPurses),("loop.example/g00264/impl.errNoKey",Rows.laid_loop_example_g00264_impl_errNoKey),("loop.example/g00264/impl.errNoAmount",Rows.laid_loop_example_g00264_impl_errNoAmount),("loop.example/g00264/impl.errFewer",Rows.laid_loop_example_g00264_impl_errFewer),("loop.example/g00264/impl.errBeyond",Rows.laid_loop_example_g00264_impl_errBeyond)] W):∃E,gY W E:=by
 obtain⟨a2,s2,k2,t2,v2,c2,x2,b2⟩:=QZ h Yi TJ;have h1:=h.tail;obtain⟨a0,s0,k0,t0,v0,c0,x0,b0⟩:=QZ h1 akE afg;have h2:=h1.tail;obtain⟨a1,s1,k1,t1,v1,c1,x1,b1⟩:=QZ h2 Yh TI;have h3:=h2.tail;obtain⟨a3,s3,k3,t3,v3,c3,x3,b3⟩:=QZ h3 akD aff;have h4:=h3.tail;obtain⟨a4,s4,k4,t4,v4,c4,x4,b4⟩:=QZ h4 afe abO;let E:Nat->Addr:=λi=>if i=3 then a2 else if i=1 then a0 else if i=2 then a1 else if i=4 then a3 else a4
 let T:Nat->ByteArray:=λi=>if i=3 then s2 else if i=1 then s0 else if i=2 then s1 else if i=4 then s3 else s4
 have hT:∀i,(1<=i/\i < 6)->W.cell? (E i)=some (.string (T i)):=λi hi=>by
  have:i=1\/i=2\/i=3\/i=4\/i=5:=Aaa
  rcases this with rfl|rfl|rfl|rfl|rfl
  all_goals first|exact c0|exact c1|exact c2|exact c3|exact c4
 refine⟨E,⟨λi hi=>?_,λi hi=>?_,λi j hi hj hne=>apart (hT i hi) (hT j hj) ?_⟩⟩
 .have:i=1\/i=2\/i=3\/i=4\/i=5:=Aaa
  rcases this with rfl|rfl|rfl|rfl|rfl
  all_goals first|exact v0|exact v1|exact v2|exact v3|exact v4
 .have:i=1\/i=2\/i=3\/i=4\/i=5:=Aaa
  rcases this with rfl|rfl|rfl|rfl|rfl
  all_goals first|exact⟨_,_,b0⟩|exact⟨_,_,b1⟩|exact⟨_,_,b2⟩|exact⟨_,_,b3⟩|exact⟨_,_,b4⟩
 .have hi':i=1\/i=2\/i=3\/i=4\/i=5:=Aaa
  have hj':j=1\/j=2\/j=3\/j=4\/j=5:=Aaa
  rcases hi' with rfl|rfl|rfl|rfl|rfl<;>rcases hj' with rfl|rfl|rfl|rfl|rfl
  all_goals first|exact absurd rfl hne|(simp[T,x0,x1,x2,x3,x4])
theorem vS {W:World} (h:laidMetH Tryz.prog Rows.fnExactKeeperSyncRow.laid W):(∃E,gY W E)/\Handle W:=by
 have h':laidMet Tryz.prog [("loop.example/g00264/impl.errNoPurses",Rows.laid_loop_example_g00264_impl_errNoPurses),("loop.example/g00264/impl.errNoKey",Rows.laid_loop_example_g00264_impl_errNoKey),("loop.example/g00264/impl.errNoAmount",Rows.laid_loop_example_g00264_impl_errNoAmount),("loop.example/g00264/impl.errFewer",Rows.laid_loop_example_g00264_impl_errFewer),("loop.example/g00264/impl.errBeyond",Rows.laid_loop_example_g00264_impl_errBeyond)] W/\handlesMet Tryz.prog [("errors.errorType",Rows.laid_errors_errorType)] W:=h;exact⟨abH h'.1,Ym h'.2 (aE3.2 rfl)⟩
open Go
theorem Bv {H:Type} {enc:TypeId×Value->H} {P:Program} {w:World} {sp:Nat->Bool}:∀{ns:List String} {gs:List (DataW H)} {ps:List MemPlace},DataW.TrodVars enc P w sp ns gs ps->gs.length=ns.length
 |[],[],_,_=>rfl
 |[],_::_,_,h=>h.elim
 |_::_,[],_,h=>h.elim
 |_::ns,_::ds,_,h=>by
  obtain⟨_,_,_,_,_,_,_,_,_,_,hs,_⟩:=h
  have:=Bv hs
  simp[this]
theorem UY {α:Type} {gs:List α} (h:gs.length=5):∃a b c d e,gs=[a,b,c,d,e]:=by
 match gs,h with
 |[a,b,c,d,e],_=>exact⟨a,b,c,d,e,rfl⟩
end Go.Proofs.YtbolgdleijjgfaaGreatDoor
