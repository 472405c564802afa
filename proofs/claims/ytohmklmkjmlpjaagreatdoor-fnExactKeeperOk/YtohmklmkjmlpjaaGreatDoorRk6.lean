/- Parts. -/
import Derived.Test.YtohmklmkjmlpjaaGreatDoorRk1
namespace Go.Proofs
open Go.Shelf YtohmklmkjmlpjaaGreatDoor
def Tryz.sortL_ren:Go.Shelf.Ren:=⟨fun|5=>233|8=>258|7=>257|19=>283|20=>284|10=>274|11=>275|12=>276|13=>277|14=>278|15=>279|16=>280|17=>281|18=>282|30=>295|31=>296|32=>297|33=>298|34=>299|35=>300|40=>308|n=>n,fun|23=>22|25=>3|3=>3|32=>220|22=>22|0=>0|44=>104|46=>322|4=>4|36=>314|35=>313|41=>232|5=>5|9=>9|53=>343|57=>347|63=>361|64=>157|n=>n,fun|n=>n⟩
theorem Tryz.sortL:Go.Proofs.SlLaysM.n5 Tryz.prog Tryz.sortL_ren:={
 mixed:=Aab
 f5:=⟨Tryz.f233.name,Aae,Tryz.func233.trans (congrArg some Aab)⟩
 f7:=⟨Tryz.f257.name,Aae,Tryz.func257.trans (congrArg some Aab)⟩
 f8:=Tryz.func258.trans (congrArg some Aab)
 f10:=⟨Tryz.f274.name,Aae,Tryz.func274.trans (congrArg some Aab)⟩
 f11:=⟨Tryz.f275.name,Aae,Tryz.func275.trans (congrArg some Aab)⟩
 f12:=⟨Tryz.f276.name,Aae,Tryz.func276.trans (congrArg some Aab)⟩
 f13:=⟨Tryz.f277.name,Aae,Tryz.func277.trans (congrArg some Aab)⟩
 f14:=⟨Tryz.f278.name,Aae,Tryz.func278.trans (congrArg some Aab)⟩
 f15:=⟨Tryz.f279.name,Aae,Tryz.func279.trans (congrArg some Aab)⟩
 f16:=⟨Tryz.f280.name,Aae,Tryz.func280.trans (congrArg some Aab)⟩
 f17:=⟨Tryz.f281.name,Aae,Tryz.func281.trans (congrArg some Aab)⟩
 f18:=⟨Tryz.f282.name,Aae,Tryz.func282.trans (congrArg some Aab)⟩
 f19:=Tryz.func283.trans (congrArg some Aab)
 f20:=Tryz.func284.trans (congrArg some Aab)
 f30:=⟨Tryz.f295.name,Aae,Tryz.func295.trans (congrArg some Aab)⟩
 f31:=Tryz.func296.trans (congrArg some Aab)
 f32:=Tryz.func297.trans (congrArg some Aab)
 f33:=⟨Tryz.f298.name,Aae,Tryz.func298.trans (congrArg some Aab)⟩
 f34:=⟨Tryz.f299.name,Aae,Tryz.func299.trans (congrArg some Aab)⟩
 f35:=⟨Tryz.f300.name,Aae,Tryz.func300.trans (congrArg some Aab)⟩
 f40:=⟨Tryz.f308.name,Aae,Tryz.func308.trans (congrArg some Aab)⟩
 t0:=Tryz.underlying0
 a0:=Tryz.isAgg0
 z0:=Tryz.sizeOf0
 v0:=Tryz.zeroValue0
 t3:=Tryz.underlying3
 a3:=Tryz.isAgg3
 z3:=Tryz.sizeOf3
 v3:=Tryz.zeroValue3
 t4:=Tryz.underlying4
 a4:=Tryz.isAgg4
 z4:=Tryz.sizeOf4
 v4:=Tryz.zeroValue4
 t5:=Tryz.underlying5
 a5:=Tryz.isAgg5
 z5:=Tryz.sizeOf5
 v5:=Tryz.zeroValue5
 t9:=Tryz.underlying9
 a9:=Tryz.isAgg9
 z9:=Tryz.sizeOf9
 v9:=Tryz.zeroValue9
 t22:=Tryz.underlying22
 a22:=Tryz.isAgg22
 z22:=Tryz.sizeOf22
 v22:=Tryz.zeroValue22
 t23:=Tryz.underlying22
 a23:=Tryz.isAgg22
 z23:=Tryz.sizeOf22
 v23:=Tryz.zeroValue22
 t25:=Tryz.underlying3
 a25:=Tryz.isAgg3
 z25:=Tryz.sizeOf3
 v25:=Tryz.zeroValue3
 t32:=Tryz.underlying220
 a32:=Tryz.isAgg220
 z32:=Tryz.sizeOf220
 v32:=Tryz.zeroValue220
 t35:=Tryz.underlying313
 a35:=Tryz.isAgg313
 z35:=Tryz.sizeOf313
 v35:=Tryz.zeroValue313
 t36:=Tryz.underlying314
 a36:=Tryz.isAgg314
 z36:=Tryz.sizeOf314
 v36:=Tryz.zeroValue314
 t41:=Tryz.underlying232
 a41:=Tryz.isAgg232
 z41:=Tryz.sizeOf232
 v41:=Tryz.zeroValue232
 t44:=Tryz.underlying104
 a44:=Tryz.isAgg104
 z44:=Tryz.sizeOf104
 v44:=Tryz.zeroValue104
 t46:=Tryz.underlying322
 a46:=Tryz.isAgg322
 z46:=Tryz.sizeOf322
 v46:=Tryz.zeroValue322
 t53:=Tryz.underlying343
 a53:=Tryz.isAgg343
 z53:=Tryz.sizeOf343
 v53:=Tryz.zeroValue343
 t57:=Tryz.underlying347
 a57:=Tryz.isAgg347
 z57:=Tryz.sizeOf347
 v57:=Tryz.zeroValue347
 t63:=Tryz.underlying361
 a63:=Tryz.isAgg361
 z63:=Tryz.sizeOf361
 v63:=Tryz.zeroValue361
 t64:=Tryz.underlying157
 a64:=Tryz.isAgg157
 z64:=Tryz.sizeOf157
 v64:=Tryz.zeroValue157}
end Go.Proofs
namespace Go.Proofs.YtohmklmkjmlpjaaGreatDoor
open Go.Proofs.Tryz
set_option maxRecDepth 100000
open Go.RowKit Go.Extern.Stop Go.Stop Go.Extern
open Mth
variable (v:Value) (xT:TypeId) (w:World) {E:Nat->Addr} {P:Program}
structure iG (w:World) (E:Nat->Addr):Prop where
 var:∀i,(1<=i/\i < 6)->w.cell? ⟨i,0,none⟩=some (.iface 372 (.pointer (some (E i))))
 row:∀i,(1<=i/\i < 6)->∃c t,w.heap[(E i).block]?=some (.cells c t (0,0))
 ne:∀i j,(1<=i/\i < 6)->(1<=j/\j < 6)->i≠j->E i≠E j
theorem iG.below {w w':World} (h:iG w E) (hb:aI w w'):iG w' E:=by
 refine⟨λi hi=>?_,λi hi=>?_,h.ne⟩
 .rw [hb.cell (p:=⟨i,0,none⟩) (World.block_lt_of_cell? _ _ (h.var i hi))];exact h.var i hi
 .obtain⟨c,t,hc⟩:=h.row i hi;refine⟨c,t,?_⟩;rw [hb.block _ ?_]
  .exact hc
  .rcases Nat.lt_or_ge (E i).block w.heap.size with h'|h'
   .exact h'
   .rw [Array.getElem?_eq_none h'] at hc;cases hc
abbrev tJ (a:Addr):Value:= .iface 372 (.pointer (some a))
namespace Is
theorem typeOf (v:Value) (w:World):(Extern.ReflectliteType.typeOf #[.iface 372 v]).run Tryz.prog w= .ok (.iface 330 (.agg #[.pointer (some ⟨6,372,none⟩)])) w:=Aab
def cmp:Array Value->Sem Value:=Extern.ReflectliteType.method λt=>do Extern.Rtype.noPackHeld "Comparable" t;pure (.bool (<-typeInfo t).comparable)
theorem comparable (w:World):(cmp #[.agg #[.pointer (some ⟨6,372,none⟩)]]).run Tryz.prog w= .ok (.bool true) w:=Aab
theorem methodComparable (v:Value) (w:World):(Go.method 501 330 v "Comparable").run Tryz.prog w= .ok (350,v) w:=Aab
theorem comp:(Tryz.prog.info? 372).map (·.comparable)=some true:=Aab
theorem size:(Tryz.prog.info? 390).map (·.size)=some 1:=Aab
theorem noIs:(Instr.typeAssert (.iface 372 v) xT 366 true).run Tryz.prog w= .ok (.tuple #[.nilIface,.bool false]) w:=run_typeAssert_lacksB Tryz.underlying366 Aab Aab v xT w
theorem noUnwrap:(Instr.typeAssert (.iface 372 v) xT 338 true).run Tryz.prog w= .ok (.tuple #[.nilIface,.bool false]) w:=run_typeAssert_lacksB Tryz.underlying338 Aab Aab v xT w
theorem noUnwraps:(Instr.typeAssert (.iface 372 v) xT 340 true).run Tryz.prog w= .ok (.tuple #[.nilIface,.bool false]) w:=run_typeAssert_lacksB Tryz.underlying340 Aab Aab v xT w
end Is
theorem aeD (a:Addr) (w:World):Calls Tryz.prog 288 #[tJ a,tJ a] w λe w'=>e= .returned (.bool true)/\w=w':=by
 open aqo in exact awI
theorem akN (b:Addr) (w:World):Calls Tryz.prog 288 #[.nilIface,tJ b] w λe w'=>e= .returned (.bool false)/\w=w':=by
 have hn:=run_eql_iface_nil_left (P:=Tryz.prog) w 372 (.pointer (some b)) Tryz.underlying242;go_in
 go_wp2
 go_ret;exact⟨rfl,rfl⟩
theorem abU (a b:Addr) (ca cb:Array Value) (ta tb:TypeId) (w:World) (hne:a≠b) (ha:w.heap[a.block]?=some (.cells ca ta (0,0))) (hb:w.heap[b.block]?=some (.cells cb tb (0,0))):
 Calls Tryz.prog 288 #[tJ a,tJ b] w λe w'=>e= .returned (.bool false)/\w=w':=by
 open aqn in exact awI
theorem aiR {w:World} {E:Nat->Addr} (h:iG w E) (i j:Nat) (b:Bool) (hi:(1<=i/\i < 6)) (hj:(1<=j/\j < 6)) (hb:(i == j)=b):Calls Tryz.prog 288 #[tJ (E i),tJ (E j)] w λe w'=>e= .returned (.bool b)/\w=w':=by
 cases b with
 |true=>
  have e:i=j:=by simpa using hb
  subst e;exact aeD (E i) w
 |false=>
  obtain⟨c1,t1,h1⟩:=h.row i hi;obtain⟨c2,t2,h2⟩:=h.row j hj;exact abU (E i) (E j) c1 c2 t1 t2 w (h.ne i j hi hj (by simpa using hb)) h1 h2
set_option maxHeartbeats 2000000
set_option maxRecDepth 100000
open Go.RowKit
theorem Ho {w:World} (h:iG w E):Calls Tryz.prog 261 #[.nilIface] w λe w'=>e= .returned (.bool false)/\w=w':=by
 have v0:=h.var 1 Aaa;have v1:=h.var 2 Aaa;have v2:=h.var 3 Aaa;have v3:=h.var 4 Aaa;have v4:=h.var 5 Aaa;have HE:=Hq h;clear h;go_in
 go_wp2_with (go_at_call 288;refine(akN _ _).mono ?_;rintro e w1 ⟨rfl,rfl⟩)
 go_ret;exact⟨rfl,rfl⟩
theorem Lu {w:World} (h:iG w E) (i:Nat) (hi:(1<=i/\i < 6)):Calls Tryz.prog 261 #[tJ (E i)] w λe w'=>e= .returned (.bool true)/\w=w':=by
 have v0:=h.var 1 Aaa;have v1:=h.var 2 Aaa;have v2:=h.var 3 Aaa;have v3:=h.var 4 Aaa;have v4:=h.var 5 Aaa;have HE:=Hq h;clear h;have h5:i=1\/i=2\/i=3\/i=4\/i=5:=Aaa
 rcases h5 with rfl|rfl|rfl|rfl|rfl
 all_goals
  go_in
  go_wp2_with (go_at_call 288;first|(refine(aiR HE _ _ true Aaa Aaa Aae).mono ?_;rintro e w1 ⟨rfl,rfl⟩)|(refine(aiR HE _ _ false Aaa Aaa Aae).mono ?_;rintro e w1 ⟨rfl,rfl⟩))
  go_ret
  exact⟨rfl,rfl⟩
open Mth
theorem iJ (w:World) (base:Nat) (t ty e:TypeId) (i:TypeInfo) (z:Value) (size bytes:Nat) (ht:P.underlying t=some (.slice e)) (hi:P.info? e=some i) (hz:i.zero=some z) (hsize:i.size=size) (hby:i.bytes=bytes) (hzs:z.cells.size=size) (hsz:0 < size) (v:Value) (n:Nat) (xs:List Value) (hown:w.ownsRow base e size v n xs) (a:Addr) (m c:Nat) (news:List Value) (hl:news.length=m*size) (hnews:∀j u,news[j]?=some u->w.cell? (a.add j)=some u) (h1:∀u∈news,u.oneCell'=true) (h63:n+m<=maxLen) (hbytes:(n+m)*bytes<=140737488355328) (hbase:base<=w.heap.size):
 ∃v' w',(Builtin.append_ #[t,t] ty #[v,.slice (some a) m c]).run P w= .ok v' w'/\w'.ownsRow base e size v' (n+m) (xs++news)/\w.grownBy w' v.ownBlock/\
  ∀x,v'.ownBlock=some x->v.ownBlock=some x\/w.heap.size<=x:=by
 obtain⟨v',w',hr,ho,hg,_⟩:=run_append_own w base t ty e i z size bytes ht hi hz hsize hby hzs hsz v n xs hown a m c news hl hnews h1 h63 hbytes hbase;refine⟨v',w',hr,ho,hg,λx hx=>?_⟩;have hsmall:n+m<=9223372036854775807:=by simp only[maxLen] at h63;omega
 rcases hown.2 with⟨rfl,rfl⟩|⟨g,cap,cur,rfl,hbg,hgg,hnc,hcm,hcs,htake⟩
 .have hxs:xs=[]:=List.eq_nil_of_length_eq_zero (by simpa using hown.1);subst hxs;obtain⟨v2,w2,hr2,ho2,_,_⟩:=run_append_own w w.heap.size t ty e i z size bytes ht hi hz hsize hby hzs hsz (.slice none 0 0) 0 [] (World.ownsRow_nil w _ e size) a m c news hl hnews h1 h63 hbytes (Nat.le_refl _);have he:=hr.symm.trans hr2;simp only[Result.ok.injEq] at he;obtain⟨rfl,rfl⟩:=he;exact .inr (ho2.lt x hx).1
 .subst hsize;subst hby;by_cases hroom:n+m<=cap
  .have hfit:n*i.size+news.length<=cur.size:=by rw [hl,hcs,<-Nat.add_mul];exact Nat.mul_le_mul_right _ hroom
   have hr2:=run_append_room (P:=P) w t ty e i ht hi g n cap cur hgg a m c news hl hnews h1 hroom hfit;have he:=hr.symm.trans hr2;simp only[Result.ok.injEq] at he;obtain⟨rfl,_⟩:=he;exact .inl hx
  .have holds:∀j u,xs[j]?=some u->w.cell? ((⟨g,0,none⟩:Addr).add j)=some u:=hown.cells (g:=g) rfl;have hr2:=run_append_grow (P:=P) w t ty e i z ht hi hz ⟨g,0,none⟩ n cap xs hown.1 holds a m c news hl hnews Aaa Aaa (growslice_fits Aaa hbytes);have he:=hr.symm.trans hr2;simp only[Result.ok.injEq] at he;obtain⟨rfl,_⟩:=he;have:w.heap.size=x:=Abm
   exact .inr Aaa
theorem og (w:World) {o:Oper} {a:Act} {K:Act->World->Prop} {Q:Exit->Act->World->Prop} (s x:Operand) (t:TypeId)
 (ho:o.op= .call {callee:= .builtin .append,args:=#[s,x],argTypes:=#[t,t]})
 (base:Nat) (e:TypeId) (i:TypeInfo) (z:Value) (size bytes:Nat) (ht:P.underlying t=some (.slice e)) (hi:P.info? e=some i) (hz:i.zero=some z)
 (hsize:i.size=size) (hby:i.bytes=bytes) (hzs:z.cells.size=size) (hsz:0 < size)
 (v:Value) (n:Nat) (xs:List Value) (hs:a.eval s=v) (hown:w.ownsRow base e size v n xs)
 (ad:Addr) (m c:Nat) (news:List Value) (hx:a.eval x= .slice (some ad) m c) (hl:news.length=m*size) (hnews:∀j u,news[j]?=some u->w.cell? (ad.add j)=some u) (h1:∀u∈news,u.oneCell'=true)
 (h63:n+m<=maxLen) (hbytes:(n+m)*bytes<=140737488355328) (hbase:base<=w.heap.size)
 (h:∀v' w',w'.ownsRow base e size v' (n+m) (xs++news)->w.grownBy w' v.ownBlock->(∀x,v'.ownBlock=some x->v.ownBlock=some x\/w.heap.size<=x)->K (a.put o.dst v') w'):o.wp P a w K Q:=by
 obtain⟨v',w',hr,h2,h3,h4⟩:=iJ w base t o.type e i z size bytes ht hi hz hsize hby hzs hsz v n xs hown ad m c news hl hnews h1 h63 hbytes hbase;exact Lib.wp_append_run w s x t t ho _ _ hs hx v' w' hr (h v' w' h2 h3 h4)
end Go.Proofs.YtohmklmkjmlpjaaGreatDoor
namespace Go.Proofs
open Go.Shelf YtohmklmkjmlpjaaGreatDoor
def Tryz.keysL_ren:Go.Shelf.Ren:=⟨fun|7=>269|10=>291|n=>n,fun|23=>291|26=>3|3=>125|28=>299|0=>0|27=>298|33=>89|4=>4|n=>n,fun|n=>n⟩
theorem Tryz.keysL:Go.Proofs.SlLaysZI.n7 Tryz.prog Tryz.keysL_ren:={
 mixed:=Aab
 f7:=⟨Tryz.f269.name,Aae,Tryz.func269.trans (congrArg some Aab)⟩
 f10:=⟨Tryz.f291.name,Aae,Tryz.func291.trans (congrArg some Aab)⟩
 t0:=Tryz.underlying0
 a0:=Tryz.isAgg0
 z0:=Tryz.sizeOf0
 v0:=Tryz.zeroValue0
 t4:=Tryz.underlying4
 a4:=Tryz.isAgg4
 z4:=Tryz.sizeOf4
 v4:=Tryz.zeroValue4
 t23:=Tryz.underlying291
 a23:=Tryz.isAgg291
 z23:=Tryz.sizeOf291
 v23:=Tryz.zeroValue291
 t26:=Tryz.underlying3
 a26:=Tryz.isAgg3
 z26:=Tryz.sizeOf3
 v26:=Tryz.zeroValue3
 t27:=Tryz.underlying298
 a27:=Tryz.isAgg298
 z27:=Tryz.sizeOf298
 v27:=Tryz.zeroValue298
 t28:=Tryz.underlying299
 a28:=Tryz.isAgg299
 z28:=Tryz.sizeOf299
 v28:=Tryz.zeroValue299
 t33:=Tryz.underlying89
 a33:=Tryz.isAgg89
 z33:=Tryz.sizeOf89
 v33:=Tryz.zeroValue89}
def Tryz.sortedL_ren:Go.Shelf.Ren:=⟨fun|6=>268|8=>290|9=>233|11=>307|13=>258|12=>257|23=>283|24=>284|14=>274|15=>275|16=>276|17=>277|18=>278|19=>279|20=>280|21=>281|22=>282|25=>295|26=>296|27=>297|28=>298|29=>299|30=>300|31=>308|n=>n,fun|26=>3|28=>299|24=>22|0=>0|3=>3|37=>220|48=>104|50=>322|4=>4|40=>314|39=>313|45=>232|5=>5|9=>9|51=>343|55=>347|57=>361|58=>157|33=>89|n=>n,fun|n=>n⟩
theorem Tryz.sortedL:Go.Proofs.SlLaysZI.n6 Tryz.prog Tryz.sortedL_ren:={
 mixed:=Aab
 f6:=⟨Tryz.f268.name,Aae,Tryz.func268.trans (congrArg some Aab)⟩
 f8:=⟨Tryz.f290.name,Aae,Tryz.func290.trans (congrArg some Aab)⟩
 f11:=⟨Tryz.f307.name,Aae,Tryz.func307.trans (congrArg some Aab)⟩
 t0:=Tryz.underlying0
 a0:=Tryz.isAgg0
 z0:=Tryz.sizeOf0
 v0:=Tryz.zeroValue0
 t24:=Tryz.underlying22
 a24:=Tryz.isAgg22
 z24:=Tryz.sizeOf22
 v24:=Tryz.zeroValue22
 t26:=Tryz.underlying3
 a26:=Tryz.isAgg3
 z26:=Tryz.sizeOf3
 v26:=Tryz.zeroValue3
 t28:=Tryz.underlying299
 a28:=Tryz.isAgg299
 z28:=Tryz.sizeOf299
 v28:=Tryz.zeroValue299
 i26:=by kernel_rfl}
end Go.Proofs
namespace Go.Proofs.YtohmklmkjmlpjaaGreatDoor
open Go.Proofs.Tryz
open Go.RowKit Go.Extern.Stop Go.Stop Go.Extern
theorem aj0 (t:Value) (w:World):
 Calls prog 253 #[.nilIface,t] w λe w'=>e= .returned (.bool false)/\w=w':=by
 go_in
 go_wp2
 go_ret;exact⟨rfl,rfl⟩
namespace As
theorem valueOfPtr (t:Addr) (w:World):(ReflectliteValue.unpack (.iface 276 (.pointer (some t)))).run Tryz.prog w
 = .ok (.agg #[.pointer (some ⟨6,276,none⟩),.pointer (some ⟨w.heap.size,0,none⟩),.int .u64 150]) (w.alloc (.cells #[.pointer (some t)] 276)):=Aab
theorem typePtr (a:Addr) (w:World):(ReflectliteValue.methodAny (ReflectliteValue.valueError "reflectlite.Value.Type" 0) (λt _ _ _=>ReflectliteType.toType t) #[.agg #[.pointer (some ⟨6,276,none⟩),.pointer (some a),.int .u64 150]]).run Tryz.prog w
 = .ok (.iface 330 (.agg #[.pointer (some ⟨6,276,none⟩)])) w:=Aab
theorem methodKind (h:Value) (w:World):(Go.method 501 330 (.agg #[h]) "Kind").run Tryz.prog w= .ok (333,h) w:=Aab
theorem methodElem (h:Value) (w:World):(Go.method 501 330 (.agg #[h]) "Elem").run Tryz.prog w= .ok (351,.agg #[h]) w:=Aab
theorem methodImplements (h:Value) (w:World):(Go.method 501 330 (.agg #[h]) "Implements").run Tryz.prog w= .ok (352,.agg #[h]) w:=Aab
theorem methodAssignableTo (h:Value) (w:World):(Go.method 501 330 (.agg #[h]) "AssignableTo").run Tryz.prog w= .ok (349,.agg #[h]) w:=Aab
theorem methodUnwrap (h:Value) (w:World):(Go.method 501 272 (.agg #[h]) "Unwrap").run Tryz.prog w= .ok (339,.agg #[h]) w:=Aab
theorem kindPtr (w:World):((ReflectliteType.abiMethod λt=>(λa:Nat=>Value.int IntKind.u8 (a:Int)) <$> Rtype.kind t) #[.pointer (some ⟨6,276,none⟩)]).run Tryz.prog w= .ok (.int .u8 22) w:=Aab
theorem kindStruct (w:World):((ReflectliteType.abiMethod λt=>(λa:Nat=>Value.int IntKind.u8 (a:Int)) <$> Rtype.kind t) #[.pointer (some ⟨6,274,none⟩)]).run Tryz.prog w= .ok (.int .u8 25) w:=Aab
theorem rlm (z:Sem Value) (f:TypeId->Addr->Nat->Nat->Sem Value) (v:Value):
 ReflectliteValue.method z f #[v]=(do match<-ReflectliteValue.parts v with|none=>z|some (t,a,fl)=>f t a fl (fl % 32)):=rfl
theorem Qa (a:Addr) (w:World):(ReflectliteValue.parts (.agg #[.pointer (some ⟨6,276,none⟩),.pointer (some a),.int .u64 150])).run Tryz.prog w= .ok (some (276,a,150)) w:=Aab
theorem isNil (a p:Addr) (W:World) (ha:W.cell? a=some (.pointer (some p))):
 (ReflectliteValue.method (ReflectliteValue.valueError "reflectlite.Value.IsNil" 0) ReflectliteValue.isNil #[.agg #[.pointer (some ⟨6,276,none⟩),.pointer (some a),.int .u64 150]]).run Tryz.prog W= .ok (.bool false) W:=by
 rw [rlm];simp only[Sem.run_bind,Qa,Result.andThen];simp[ReflectliteValue.isNil,loadVar,isAgg,underlying,Tryz.underlying276,ha,Result.andThen]
theorem elemType (w:World):(ReflectliteType.method ReflectliteType.elem #[.agg #[.pointer (some ⟨6,276,none⟩)]]).run Tryz.prog w= .ok (.iface 330 (.agg #[.pointer (some ⟨6,274,none⟩)])) w:=Aab
theorem implements (w:World):(ReflectliteType.relation "Implements" ReflectliteType.implements_ #[.agg #[.pointer (some ⟨6,274,none⟩)],.iface 330 (.agg #[.pointer (some ⟨6,242,none⟩)])]).run Tryz.prog w= .ok (.bool true) w:=Aab
theorem typeOfNo (v:Value) (w:World):(ReflectliteType.typeOf #[.iface 274 v]).run Tryz.prog w= .ok (.iface 330 (.agg #[.pointer (some ⟨6,274,none⟩)])) w:=Aab
theorem typeOfUnread (v:Value) (w:World):(ReflectliteType.typeOf #[.iface 272 v]).run Tryz.prog w= .ok (.iface 330 (.agg #[.pointer (some ⟨6,272,none⟩)])) w:=Aab
theorem assignNo (w:World):(ReflectliteType.relation "AssignableTo" ReflectliteType.assignableTo #[.agg #[.pointer (some ⟨6,274,none⟩)],.iface 330 (.agg #[.pointer (some ⟨6,274,none⟩)])]).run Tryz.prog w= .ok (.bool true) w:=Aab
theorem assignUnread (w:World):(ReflectliteType.relation "AssignableTo" ReflectliteType.assignableTo #[.agg #[.pointer (some ⟨6,272,none⟩)],.iface 330 (.agg #[.pointer (some ⟨6,274,none⟩)])]).run Tryz.prog w= .ok (.bool false) w:=Aab
theorem valueOfNo (p:Int) (w:World):(ReflectliteValue.unpack (.iface 274 (.agg #[.int .i64 p]))).run Tryz.prog w
 = .ok (.agg #[.pointer (some ⟨6,274,none⟩),.pointer (some ⟨w.heap.size,0,none⟩),.int .u64 153]) (w.alloc (.cells #[.int .i64 p] 274)):=Aab
theorem elemOf (w:World):(Rtype.elem? 276).run Tryz.prog w= .ok (some 274) w:=Aab
theorem aCp (p:Addr) (w:World):(ReflectliteValue.mk 274 p ReflectliteValue.flagAddr).run Tryz.prog w= .ok (.agg #[.pointer (some ⟨6,274,none⟩),.pointer (some p),.int .u64 409]) w:=Aab
theorem elemV (a p:Addr) (W:World) (ha:W.cell? a=some (.pointer (some p))):
 (ReflectliteValue.method (ReflectliteValue.valueError "reflectlite.Value.Elem" 0) ReflectliteValue.elem #[.agg #[.pointer (some ⟨6,276,none⟩),.pointer (some a),.int .u64 150]]).run Tryz.prog W
  = .ok (.agg #[.pointer (some ⟨6,274,none⟩),.pointer (some p),.int .u64 409]) W:=by
 rw [rlm];simp only[Sem.run_bind,Qa,Result.andThen];simp[ReflectliteValue.elem,loadVar,isAgg,underlying,Tryz.underlying276,ha,Result.andThen,elemOf,aCp]
theorem acu (a:Addr) (w:World):(ReflectliteValue.parts (.agg #[.pointer (some ⟨6,274,none⟩),.pointer (some a),.int .u64 409])).run Tryz.prog w= .ok (some (274,a,409)) w:=Aab
theorem aeT (a:Addr) (w:World):(ReflectliteValue.parts (.agg #[.pointer (some ⟨6,274,none⟩),.pointer (some a),.int .u64 153])).run Tryz.prog w= .ok (some (274,a,153)) w:=Aab
theorem aaT (w:World):(Rtype.directlyAssignable 274 274).run Tryz.prog w= .ok true w:=Aab
end As
open Go.RowKit Go.Extern.Stop Go.Stop Go.Extern
namespace As
theorem rls (v x:Value):ReflectliteValue.set #[v,x]=(do
 let(some (dst,a,fl),some (src,b,_)):=(<-ReflectliteValue.parts v,<-ReflectliteValue.parts x)
  |unsupported (.noEntry "extern/(internal/reflectlite.Value).Set.zeroValue")
 if fl / ReflectliteValue.flagAddr % 2 == 0 then unsupported (.noEntry "extern/(internal/reflectlite.Value).Set.unaddressable")
 let val<-loadVar src b
 if<-Rtype.directlyAssignable dst src then storeVar dst a val
 else if<-Rtype.implements dst src then
  if (<-Rtype.kind src) == 20 then
   match val with
   | .nilIface=>unsupported (.noEntry "extern/reflectlite: a nil value of one interface type handed on as a value of another")
   |_=>storeVar dst a val
  else storeVar dst a (.iface src val)
 else panicString ("reflectlite.Set: value of type " ++(<-Rtype.spelt src)++ " is not assignable to type " ++(<-Rtype.spelt dst))
 pure (.tuple #[])):=rfl
theorem setNo (ta b:Addr) (p:Int) (old:Value) (W:World) (hb:W.cell? b=some (.int .i64 p)) (ht:W.cell? ta=some old) (hf:W.frozen? ta=false):
 (ReflectliteValue.set #[.agg #[.pointer (some ⟨6,274,none⟩),.pointer (some ta),.int .u64 409],.agg #[.pointer (some ⟨6,274,none⟩),.pointer (some b),.int .u64 153]]).run Tryz.prog W
  = .ok (.tuple #[]) (W.setCell ta (.int .i64 p)):=by
 rw [rls];simp only[Sem.run_bind,acu,aeT,Result.andThen]
 have hl:(loadCells b 1).run Tryz.prog W= .ok #[.int .i64 p] W:=run_loadCells_list W b [.int .i64 p] (λj v hj=>by
  match j,hj with
  |0,hj=>simp at hj;subst hj;simpa [Addr.add] using hb)
 simp[ReflectliteValue.flagAddr,loadVar,isAgg,underlying,Tryz.underlying274,hl,Result.andThen,aaT,storeVar,Value.cells,storeCells,Addr.add];rw [run_store Tryz.prog W ta _ _ Aad];simp[ht,hf]
end As
set_option maxHeartbeats 2000000
set_option maxRecDepth 100000
open Go.RowKit Go.Extern.Stop Go.Stop Go.Extern
namespace As
theorem noAs (v:Value) (xT:TypeId) (w:World):(Instr.typeAssert (.iface 272 v) xT 335 true).run Tryz.prog w= .ok (.tuple #[.nilIface,.bool false]) w:=run_typeAssert_lacksB Tryz.underlying335 Aab Aab v xT w
theorem hasUnwrap (v:Value) (xT:TypeId) (w:World):(Instr.typeAssert (.iface 272 v) xT 338 true).run Tryz.prog w= .ok (.tuple #[.iface 272 v,.bool true]) w:=run_typeAssert_hasB Tryz.underlying338 Aab v xT w
def no (p:Int):Value:= .iface 274 (.agg #[.int .i64 p])
def un (e:Value):Value:= .iface 272 (.agg #[e])
end As
theorem World.lt_of_cell {w:World} {a:Addr} {v:Value} (h:w.cell? a=some v):a.block < w.heap.size:=by
 rcases Nat.lt_or_ge a.block w.heap.size with h'|h'
 .exact h'
 .simp[World.cell?,Array.getElem?_eq_none h'] at h
theorem aj1 (p:Int) (tg:Value) (t a:Addr) (old:Value) (w:World) (ha:w.cell? a=some (.pointer (some t))) (ht:w.cell? t=some old) (hf:w.frozen? t=false):
 Calls Tryz.prog 273 #[.iface 272 (.agg #[.iface 274 (.agg #[.int .i64 p])]),tg,.agg #[.pointer (some ⟨6,276,none⟩),.pointer (some a),.int .u64 150],.iface 330 (.agg #[.pointer (some ⟨6,274,none⟩)])] w
  λe w'=>e= .returned (.bool true)/\Below t.block w w':=by
 open amA in exact awe
theorem aj2 (p:Int) (tg:Value) (t a:Addr) (old:Value) (w:World) (ha:w.cell? a=some (.pointer (some t))) (ht:w.cell? t=some old) (hf:w.frozen? t=false):
 Calls Tryz.prog 273 #[.iface 272 (.agg #[.iface 272 (.agg #[.iface 274 (.agg #[.int .i64 p])])]),tg,.agg #[.pointer (some ⟨6,276,none⟩),.pointer (some a),.int .u64 150],.iface 330 (.agg #[.pointer (some ⟨6,274,none⟩)])] w
  λe w'=>e= .returned (.bool true)/\Below t.block w w':=by
 open amz in exact awe
set_option maxHeartbeats 2000000
set_option maxRecDepth 100000
open Go.RowKit Go.Extern.Stop Go.Stop Go.Extern
theorem OL (err:Value) (tb:Nat) (old:Value) (w:World) (hne:∃v,err= .iface 272 v)
 (has:∀(tg:Value) (t a:Addr) (old:Value) (w:World),w.cell? a=some (.pointer (some t))->w.cell? t=some old->w.frozen? t=false->
  Calls Tryz.prog 273 #[err,tg,.agg #[.pointer (some ⟨6,276,none⟩),.pointer (some a),.int .u64 150],.iface 330 (.agg #[.pointer (some ⟨6,274,none⟩)])] w λe w'=>e= .returned (.bool true)/\Below t.block w w')
 (hg:w.cell? ⟨0,0,none⟩=some (.iface 330 (.agg #[.pointer (some ⟨6,242,none⟩)])))
 (ht:w.cell? ⟨tb,0,none⟩=some old) (hf:w.frozen? ⟨tb,0,none⟩=false):
 Calls Tryz.prog 253 #[err,.iface 276 (.pointer (some ⟨tb,0,none⟩))] w λe w'=>e= .returned (.bool true)/\Below tb w w':=by
 obtain⟨v,rfl⟩:=hne;have HAS:=Hq has;clear has;open avI in exact agY
def Handle (w:World):Prop:=w.cell? ⟨0,0,none⟩=some (.iface 330 (.agg #[.pointer (some ⟨6,242,none⟩)]))
theorem Handle.below {w w':World} (h:Handle w) (hb:aI w w'):Handle w':=by
 have hl:=World.lt_of_cell h;unfold Handle;rw [hb.cell (p:=⟨0,0,none⟩) hl];exact h
theorem Py (w:World):Calls Tryz.prog 223 #[.nilIface] w (eG w (.bool false)):=by
 go_in
 go_wp2_with (go_at_call 253;refine(aj0 _ _).mono ?_;rintro e w' ⟨rfl,rfl⟩)
 go_ret;exact⟨rfl,(Below.refl _ _).alloc (Nat.le_refl _) _⟩
theorem Pz (p:Int) (w:World) (h:Handle w):Calls Tryz.prog 223 #[.iface 272 (.agg #[.iface 274 (.agg #[.int .i64 p])])] w (eG w (.bool true)):=by
 open avz in exact agX
theorem abT (p:Int) (w:World) (h:Handle w):Calls Tryz.prog 223 #[.iface 272 (.agg #[.iface 272 (.agg #[.iface 274 (.agg #[.int .i64 p])])])] w (eG w (.bool true)):=by
 open avy in exact agX
open Go.RowKit
theorem Si (w:World):CallsD Tryz.prog 164 #[] .returning w λe u' w'=>e= .returned (.tuple #[])/\u'= .returning/\w=w':=by
 refine callsD_of_wpS Tryz.func164 rfl λc₀ cs hu=>?_
 apply wpS_seq
 apply wpS_region
 simp[wpOpsS,go_sem,recoverD,hu,Tryz.ntmps164,Exit.thenS];refine wpS_of_wp ?_;show Code.wp _ _ _ {tmps:=#[.nilIface,undef,undef,.nilIface,undef,undef,undef,undef,undef,undef,undef,undef,undef,undef],defers:=[]} _
 have hnil:∀W:World,(binOp BinOp.eql 20 .nilIface .nilIface).run Tryz.prog W= .ok (.bool true) W:=λ_=>by kernel_rfl
 go_wp2_with fail;cases c₀
 simp_all [bodyPostS,results,Tryz.results164]
theorem WB (p:Int) (older:List PanicEntry) (w:World):CallsD Tryz.prog 164 #[] (.panicking ({v:= .iface 211 (.agg #[.int .i64 p]),recovered:=false}::older)) w λe u' w'=>e= .returned (.tuple #[])/\u'= .panicking ({v:= .iface 211 (.agg #[.int .i64 p]),recovered:=true}::older)/\aI w w':=by
 refine callsD_of_wpS Tryz.func164 rfl λc₀ cs hu=>?_
 apply wpS_seq
 apply wpS_region
 simp[wpOpsS,go_sem,recoverD,hu,Tryz.ntmps164,Exit.thenS];refine wpS_of_wp ?_;show Code.wp _ _ _ {tmps:=#[.iface 211 (.agg #[.int .i64 p]),undef,undef,.iface 211 (.agg #[.int .i64 p]),undef,undef,undef,undef,undef,undef,undef,undef,undef,undef],defers:=[]} _
 have hnil:∀W:World,(binOp BinOp.eql 20 (.iface 211 (.agg #[.int .i64 p])) .nilIface).run Tryz.prog W= .ok (.bool false) W:=λ_=>by kernel_rfl
 have has:∀W:World,(Instr.typeAssert (.iface 211 (.agg #[.int .i64 p])) 20 211 true).run Tryz.prog W= .ok (.tuple #[.agg #[.int .i64 p],.bool true]) W:=λ_=>by kernel_rfl
 go_wp2_with fail;have hb:Below w.heap.size w (w.alloc (.cells #[.int .i64 p] 211)):=(Below.refl _ _).alloc (Nat.le_refl _) _;cases c₀
 simp_all [bodyPostS,results,Tryz.results164]
theorem aBB:Tryz.prog.globalNamed "errors.errorType" =some 0:=Aab
theorem akV:(Tryz.prog.cutTypes.find? (·.1 == "internal/reflectlite.rtype")).map (·.2)=some 330:=Aab
theorem akR:((List.range 401).filter λt=>Tryz.prog.rowNamed t [101,114,114,111,114])=[242]:=Aab
theorem Yq:Tryz.prog.types.size=401:=Aab
theorem WW {l:List (String×DataW Unit)} {W:World} (h:handlesMet Tryz.prog l W) (hm:("errors.errorType",Rows.laid_errors_errorType)∈l):Handle W:=by
 obtain⟨name,u,ty,e1,e2,e3,e4,e5⟩:=h _ hm;have en:name=[101,114,114,111,114]:=(Option.some.inj e1).symm;subst en;obtain rfl:=Option.some.inj (akV.symm.trans e2);have hm:ty∈(List.range 401).filter λt=>Tryz.prog.rowNamed t [101,114,114,111,114]:=List.mem_filter.2 ⟨List.mem_range.2 (by rw [<-Yq];exact e3),e4⟩
 rw [akR] at hm;obtain rfl:=List.mem_singleton.1 hm;have hh:typeHandle Tryz.prog 242= .pointer (some ⟨6,242,none⟩):=Aab
 rw [hh] at e5;have:=World.var?_cell aBB e5 0;unfold Handle;simpa using this
theorem SA:(Tryz.prog.globals[3]?).map (·.type)=some 242:=Aab
theorem aeo:(Tryz.prog.globals[1]?).map (·.type)=some 242:=Aab
theorem Sz:(Tryz.prog.globals[2]?).map (·.type)=some 242:=Aab
theorem aen:(Tryz.prog.globals[4]?).map (·.type)=some 242:=Aab
theorem aa6:(Tryz.prog.globals[5]?).map (·.type)=some 242:=Aab
theorem WQ:Tryz.prog.globalNamed "loop.example/g00264/impl.errNoPurses" =some 3:=Aab
theorem ake:Tryz.prog.globalNamed "loop.example/g00264/impl.errNoKey" =some 1:=Aab
theorem WL:Tryz.prog.globalNamed "loop.example/g00264/impl.errNoAmount" =some 2:=Aab
theorem akd:Tryz.prog.globalNamed "loop.example/g00264/impl.errFewer" =some 4:=Aab
theorem aem:Tryz.prog.globalNamed "loop.example/g00264/impl.errBeyond" =some 5:=Aab
theorem aaP:Tryz.prog.cellsOf 390=1:=Aab
theorem aaQ:Tryz.prog.cellsOf 9=1:=Aab
theorem VN: "*" ++ "errors.errorString" = "*errors.errorString" :=Aae
theorem akU (u:TypeId) (h:Tryz.prog.typeName? 3 u=some "*errors.errorString"):u=372:=
 typeName_ptr_named (nm:= "errors.errorString") (by rw [VN];kernel_rfl) Aab Aae u (by rw [VN];exact h)
theorem Qo {n:String} {text:List UInt8} {r:List (String×DataW Unit)} {W:World} {g:Nat} (h:laidMet Tryz.prog ((n,.iface "*errors.errorString" (.ptr (.agg [.lit (.string text)])))::r) W)
 (hg:Tryz.prog.globalNamed n=some g) (ht:(Tryz.prog.globals[g]?).map (·.type)=some 242):
 ∃(a:Addr) (s:ByteArray) (c:Array Value) (t:TypeId),W.cell? ⟨g,0,none⟩=some (tJ a)/\W.cell? a=some (.string s)/\s.data.toList=text/\W.heap[a.block]?=some (.cells c t (0,0)):=by
 obtain⟨ps,⟨g0',t0',cs0,f0,p0,q0,hg0',ht0',hv0,hd0,_,e0⟩,hnd,hrows⟩:=h;obtain rfl:=Option.some.inj (hg.symm.trans hg0');obtain rfl:=Option.some.inj (ht.symm.trans ht0');subst e0;obtain⟨l0⟩:=cs0
 have ok0:∀u v,l0=[.iface u v]->Value.okWide Tryz.prog W .any 0 u v:=λu v e=>by
  subst e
  exact(hrows g 0 (by simp[MemPlace.row])).2 u v (by simpa using World.var?_cell hg0' hv0 0)
 obtain⟨a0,s0,rfl,hc0,hs0,hz0,rfl⟩:=errorString_of_trod Tryz.underlying242 akU Tryz.underlying372 Tryz.underlying390 rfl rfl Tryz.underlying9 aaP aaQ hd0 ok0;obtain⟨c0,t0,hb0⟩:=(hrows a0.block a0.off (by simp[MemPlace.row])).1;exact⟨a0,s0,c0,t0,by simpa using World.var?_cell hg0' hv0 0,hc0,hs0,hb0⟩
theorem apart {W:World} {a b:Addr} {s t:ByteArray} (ha:W.cell? a=some (.string s)) (hb:W.cell? b=some (.string t)) (hne:s.data.toList≠t.data.toList):a≠b:=λe=>by
 rw [e,hb] at ha;injection ha with ha
 injection ha with ha
 exact hne (by rw [ha])
theorem aa0 {W:World} (h:laidMet Tryz.prog [("loop.example/g00264/impl.errNoPurses",Rows.laid_loop_example_g00264_impl_errNoPurses),("loop.example/g00264/impl.errNoKey",Rows.laid_loop_example_g00264_impl_errNoKey),("loop.example/g00264/impl.errNoAmount",Rows.laid_loop_example_g00264_impl_errNoAmount),("loop.example/g00264/impl.errFewer",Rows.laid_loop_example_g00264_impl_errFewer),("loop.example/g00264/impl.errBeyond",Rows.laid_loop_example_g00264_impl_errBeyond)] W):∃E,iG W E:=by
 obtain⟨a2,s2,k2,t2,v2,c2,x2,b2⟩:=Qo h WQ SA;have h1:=h.tail;obtain⟨a0,s0,k0,t0,v0,c0,x0,b0⟩:=Qo h1 ake aeo;have h2:=h1.tail;obtain⟨a1,s1,k1,t1,v1,c1,x1,b1⟩:=Qo h2 WL Sz;have h3:=h2.tail;obtain⟨a3,s3,k3,t3,v3,c3,x3,b3⟩:=Qo h3 akd aen;have h4:=h3.tail;obtain⟨a4,s4,k4,t4,v4,c4,x4,b4⟩:=Qo h4 aem aa6;let E:Nat->Addr:=λi=>if i=3 then a2 else if i=1 then a0 else if i=2 then a1 else if i=4 then a3 else a4
 let T:Nat->ByteArray:=λi=>if i=3 then s2 else if i=1 then s0 else if i=2 then s1 else if i=4 then s3 else s4
 have hT:∀i,(1<=i/\i < 6)->W.cell? (E i)=some (.string (T i)):=λi hi=>by
  have:i=1\/i=2\/i=3\/i=4\/i=5:=Aaa
  rcases this with rfl|rfl|rfl|rfl|rfl
  all_goals first|exact c0|exact c1|exact c2|exact c3|exact c4
 refine⟨E,⟨λi hi=>?_,λi hi=>?_,λi j hi hj hne=>apart (hT i hi) (hT j hj) ?_⟩⟩
 .have:i=1\/i=2\/i=3\/i=4\/i=5:=Aaa
  rcases this with rfl|rfl|rfl|rfl|rfl
  all_goals first|exact v0|exact v1|exact v2|exact v3|exact v4
 .have:i=1\/i=2\/i=3\/i=4\/i=5:=Aaa
  rcases this with rfl|rfl|rfl|rfl|rfl
  all_goals first|exact⟨_,_,b0⟩|exact⟨_,_,b1⟩|exact⟨_,_,b2⟩|exact⟨_,_,b3⟩|exact⟨_,_,b4⟩
 .have hi':i=1\/i=2\/i=3\/i=4\/i=5:=Aaa
  have hj':j=1\/j=2\/j=3\/j=4\/j=5:=Aaa
  rcases hi' with rfl|rfl|rfl|rfl|rfl<;>rcases hj' with rfl|rfl|rfl|rfl|rfl
  all_goals first|exact absurd rfl hne|(simp[T,x0,x1,x2,x3,x4])
theorem wN {W:World} (h:laidMetH Tryz.prog Rows.fnExactKeeperOkRow.laid W):(∃E,iG W E)/\Handle W:=by
 have h':laidMet Tryz.prog [("loop.example/g00264/impl.errNoPurses",Rows.laid_loop_example_g00264_impl_errNoPurses),("loop.example/g00264/impl.errNoKey",Rows.laid_loop_example_g00264_impl_errNoKey),("loop.example/g00264/impl.errNoAmount",Rows.laid_loop_example_g00264_impl_errNoAmount),("loop.example/g00264/impl.errFewer",Rows.laid_loop_example_g00264_impl_errFewer),("loop.example/g00264/impl.errBeyond",Rows.laid_loop_example_g00264_impl_errBeyond)] W/\handlesMet Tryz.prog [("errors.errorType",Rows.laid_errors_errorType)] W:=h;exact⟨aa0 h'.1,WW h'.2 (List.mem_singleton.2 rfl)⟩
open Go
theorem Ag {H:Type} {enc:TypeId×Value->H} {P:Program} {w:World} {sp:Nat->Bool}:∀{ns:List String} {gs:List (DataW H)} {ps:List MemPlace},DataW.TrodVars enc P w sp ns gs ps->gs.length=ns.length
 |[],[],_,_=>rfl
 |[],_::_,_,h=>h.elim
 |_::_,[],_,h=>h.elim
 |_::ns,_::ds,_,h=>by
  obtain⟨_,_,_,_,_,_,_,_,_,_,hs,_⟩:=h
  have:=Ag hs
  simp[this]
theorem Uj {α:Type} {gs:List α} (h:gs.length=5):∃a b c d e,gs=[a,b,c,d,e]:=by
 match gs,h with
 |[a,b,c,d,e],_=>exact⟨a,b,c,d,e,rfl⟩
end Go.Proofs.YtohmklmkjmlpjaaGreatDoor
