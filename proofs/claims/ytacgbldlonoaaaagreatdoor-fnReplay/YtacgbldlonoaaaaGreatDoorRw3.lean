/- Parts. -/
import Derived.Test.YtacgbldlonoaaaaGreatDoorRw1
namespace Go.Proofs.YtacgbldlonoaaaaGreatDoor.Mth
open Go.Proofs.Tryz
open Go.Lib (decDigits itoa)
end Go.Proofs.YtacgbldlonoaaaaGreatDoor.Mth
namespace Go.Proofs.YtacgbldlonoaaaaGreatDoor
open Go.Proofs.Tryz
open Go.RowKit
open Mth
variable (h:Value) (w:World) {c g i B len cap:Nat} {w':World} {P:Program} {a:Option Addr}
def ayz (w:World) (g:Nat) (xs:List ByteArray):Prop:=w.heap[g]?=some (.cells (xs.map Value.string).toArray 9 (0,0))
structure Keeps (g:Nat) (w w':World):Prop where
 os:w'.os=w.os
 tape:w'.tape=w.tape
 output:w'.output=w.output
 size:w.heap.size<=w'.heap.size
 block:∀k,k < w.heap.size->k≠g->w'.heap[k]?=w.heap[k]?
theorem Keeps.trans {a b c:World} (h:Keeps g a b) (k:Keeps g b c):Keeps g a c:=
 ⟨k.os.trans h.os,k.tape.trans h.tape,k.output.trans h.output,Nat.le_trans h.size k.size,λi hi hg=>(k.block i (Nat.lt_of_lt_of_le hi h.size) hg).trans (h.block i hi hg)⟩
theorem Keeps.of_below {w:World} (h:aY w w'):Keeps g w w':=⟨h.os,h.tape,h.output,h.size,λk hk _=>h.block k hk⟩
theorem Keeps.set {w:World} (v:Value):Keeps g w (w.setCell ⟨g,i,none⟩ v):=
 ⟨rfl,rfl,rfl,Aas,λk _ hg=>Below.heap_setCell _ _ _ _ hg⟩
theorem Keeps.below {w:World} (h:Keeps g w w') (hB:B<=g) (hs:B<=w.heap.size):Below B w w':=⟨h.os,h.tape,h.output,h.size,λk hk=>h.block k Aaa Aaa⟩
open Mth
theorem dR (w:World) (base:Nat) (t ty e:TypeId) (i:TypeInfo) (z:Value) (size bytes:Nat) (ht:P.underlying t=some (.slice e)) (hi:P.info? e=some i) (hz:i.zero=some z) (hsize:i.size=size) (hby:i.bytes=bytes) (hzs:z.cells.size=size) (hsz:0 < size) (v:Value) (n:Nat) (xs:List Value) (hown:w.ownsRow base e size v n xs) (a:Addr) (m c:Nat) (news:List Value) (hl:news.length=m*size) (hnews:∀j u,news[j]?=some u->w.cell? (a.add j)=some u) (h1:∀u∈news,u.oneCell'=true) (h63:n+m<=maxLen) (hbytes:(n+m)*bytes<=140737488355328) (hbase:base<=w.heap.size):
 ∃v' w',(Builtin.append_ #[t,t] ty #[v,.slice (some a) m c]).run P w= .ok v' w'/\w'.ownsRow base e size v' (n+m) (xs++news)/\w.grownBy w' v.ownBlock/\
  ∀x,v'.ownBlock=some x->v.ownBlock=some x\/w.heap.size<=x:=by
 obtain⟨v',w',hr,ho,hg,_⟩:=run_append_own w base t ty e i z size bytes ht hi hz hsize hby hzs hsz v n xs hown a m c news hl hnews h1 h63 hbytes hbase;refine⟨v',w',hr,ho,hg,λx hx=>?_⟩;have hsmall:n+m<=9223372036854775807:=by simp only[maxLen] at h63;omega
 rcases hown.2 with⟨rfl,rfl⟩|⟨g,cap,cur,rfl,hbg,hgg,hnc,hcm,hcs,htake⟩
 .have hxs:xs=[]:=List.eq_nil_of_length_eq_zero (by simpa using hown.1);subst hxs;obtain⟨v2,w2,hr2,ho2,_,_⟩:=run_append_own w w.heap.size t ty e i z size bytes ht hi hz hsize hby hzs hsz (.slice none 0 0) 0 [] (World.ownsRow_nil w _ e size) a m c news hl hnews h1 h63 hbytes (Nat.le_refl _);have he:=hr.symm.trans hr2;simp only[Result.ok.injEq] at he;obtain⟨rfl,rfl⟩:=he;exact .inr (ho2.lt x hx).1
 .subst hsize;subst hby;by_cases hroom:n+m<=cap
  .have hfit:n*i.size+news.length<=cur.size:=by rw [hl,hcs,<-Nat.add_mul];exact Nat.mul_le_mul_right _ hroom
   have hr2:=run_append_room (P:=P) w t ty e i ht hi g n cap cur hgg a m c news hl hnews h1 hroom hfit;have he:=hr.symm.trans hr2;simp only[Result.ok.injEq] at he;obtain⟨rfl,_⟩:=he;exact .inl hx
  .have holds:∀j u,xs[j]?=some u->w.cell? ((⟨g,0,none⟩:Addr).add j)=some u:=hown.cells (g:=g) rfl;have hr2:=run_append_grow (P:=P) w t ty e i z ht hi hz ⟨g,0,none⟩ n cap xs hown.1 holds a m c news hl hnews Aaa Aaa (growslice_fits Aaa hbytes);have he:=hr.symm.trans hr2;simp only[Result.ok.injEq] at he;obtain⟨rfl,_⟩:=he;have:w.heap.size=x:=Abo
   exact .inr Aaa
theorem pV (w:World) {o:Oper} {a:Act} {K:Act->World->Prop} {Q:Exit->Act->World->Prop} (s x:Operand) (t:TypeId)
 (ho:o.op= .call {callee:= .builtin .append,args:=#[s,x],argTypes:=#[t,t]})
 (base:Nat) (e:TypeId) (i:TypeInfo) (z:Value) (size bytes:Nat) (ht:P.underlying t=some (.slice e)) (hi:P.info? e=some i) (hz:i.zero=some z)
 (hsize:i.size=size) (hby:i.bytes=bytes) (hzs:z.cells.size=size) (hsz:0 < size)
 (v:Value) (n:Nat) (xs:List Value) (hs:a.eval s=v) (hown:w.ownsRow base e size v n xs)
 (ad:Addr) (m c:Nat) (news:List Value) (hx:a.eval x= .slice (some ad) m c) (hl:news.length=m*size) (hnews:∀j u,news[j]?=some u->w.cell? (ad.add j)=some u) (h1:∀u∈news,u.oneCell'=true)
 (h63:n+m<=maxLen) (hbytes:(n+m)*bytes<=140737488355328) (hbase:base<=w.heap.size)
 (h:∀v' w',w'.ownsRow base e size v' (n+m) (xs++news)->w.grownBy w' v.ownBlock->(∀x,v'.ownBlock=some x->v.ownBlock=some x\/w.heap.size<=x)->K (a.put o.dst v') w'):o.wp P a w K Q:=by
 obtain⟨v',w',hr,h2,h3,h4⟩:=dR w base t o.type e i z size bytes ht hi hz hsize hby hzs hsz v n xs hown ad m c news hl hnews h1 h63 hbytes hbase;exact Lib.wp_append_run w s x t t ho _ _ hs hx v' w' hr (h v' w' h2 h3 h4)
open Go.RowKit Go.Extern.Stop Go.Stop Go.Extern
theorem ajc (t:Value) (w:World):
 Calls prog 243 #[.nilIface,t] w λe w'=>e= .returned (.bool false)/\w=w':=by
 go_in
 go_wp2
 go_ret;exact⟨rfl,rfl⟩
namespace As
theorem valueOfPtr (t:Addr) (w:World):(ReflectliteValue.unpack (.iface 283 (.pointer (some t)))).run Tryz.prog w
 = .ok (.agg #[.pointer (some ⟨6,283,none⟩),.pointer (some ⟨w.heap.size,0,none⟩),.int .u64 150]) (w.alloc (.cells #[.pointer (some t)] 283)):=Aab
theorem typePtr (a:Addr) (w:World):(ReflectliteValue.methodAny (ReflectliteValue.valueError "reflectlite.Value.Type" 0) (λt _ _ _=>ReflectliteType.toType t) #[.agg #[.pointer (some ⟨6,283,none⟩),.pointer (some a),.int .u64 150]]).run Tryz.prog w
 = .ok (.iface 317 (.agg #[.pointer (some ⟨6,283,none⟩)])) w:=Aab
theorem methodKind:(Go.method 467 317 (.agg #[h]) "Kind").run Tryz.prog w= .ok (293,h) w:=Aab
theorem methodElem:(Go.method 467 317 (.agg #[h]) "Elem").run Tryz.prog w= .ok (310,.agg #[h]) w:=Aab
theorem methodImplements:(Go.method 467 317 (.agg #[h]) "Implements").run Tryz.prog w= .ok (311,.agg #[h]) w:=Aab
theorem methodAssignableTo:(Go.method 467 317 (.agg #[h]) "AssignableTo").run Tryz.prog w= .ok (308,.agg #[h]) w:=Aab
theorem methodUnwrap:(Go.method 467 279 (.agg #[h]) "Unwrap").run Tryz.prog w= .ok (302,.agg #[h]) w:=Aab
theorem kindPtr (w:World):((ReflectliteType.abiMethod λt=>(λa:Nat=>Value.int IntKind.u8 (a:Int)) <$> Rtype.kind t) #[.pointer (some ⟨6,283,none⟩)]).run Tryz.prog w= .ok (.int .u8 22) w:=Aab
theorem kindStruct (w:World):((ReflectliteType.abiMethod λt=>(λa:Nat=>Value.int IntKind.u8 (a:Int)) <$> Rtype.kind t) #[.pointer (some ⟨6,281,none⟩)]).run Tryz.prog w= .ok (.int .u8 25) w:=Aab
theorem rlm (z:Sem Value) (f:TypeId->Addr->Nat->Nat->Sem Value) (v:Value):
 ReflectliteValue.method z f #[v]=(do match<-ReflectliteValue.parts v with|none=>z|some (t,a,fl)=>f t a fl (fl % 32)):=rfl
theorem Qq (a:Addr) (w:World):(ReflectliteValue.parts (.agg #[.pointer (some ⟨6,283,none⟩),.pointer (some a),.int .u64 150])).run Tryz.prog w= .ok (some (283,a,150)) w:=Aab
theorem isNil (a p:Addr) (W:World) (ha:W.cell? a=some (.pointer (some p))):
 (ReflectliteValue.method (ReflectliteValue.valueError "reflectlite.Value.IsNil" 0) ReflectliteValue.isNil #[.agg #[.pointer (some ⟨6,283,none⟩),.pointer (some a),.int .u64 150]]).run Tryz.prog W= .ok (.bool false) W:=by
 rw [rlm];simp only[Sem.run_bind,Qq,Result.andThen];simp[ReflectliteValue.isNil,loadVar,isAgg,underlying,Tryz.underlying283,ha,Result.andThen]
theorem elemType (w:World):(ReflectliteType.method ReflectliteType.elem #[.agg #[.pointer (some ⟨6,283,none⟩)]]).run Tryz.prog w= .ok (.iface 317 (.agg #[.pointer (some ⟨6,281,none⟩)])) w:=Aab
theorem implements (w:World):(ReflectliteType.relation "Implements" ReflectliteType.implements_ #[.agg #[.pointer (some ⟨6,281,none⟩)],.iface 317 (.agg #[.pointer (some ⟨6,248,none⟩)])]).run Tryz.prog w= .ok (.bool true) w:=Aab
theorem typeOfNo (v:Value) (w:World):(ReflectliteType.typeOf #[.iface 281 v]).run Tryz.prog w= .ok (.iface 317 (.agg #[.pointer (some ⟨6,281,none⟩)])) w:=Aab
theorem typeOfUnread (v:Value) (w:World):(ReflectliteType.typeOf #[.iface 279 v]).run Tryz.prog w= .ok (.iface 317 (.agg #[.pointer (some ⟨6,279,none⟩)])) w:=Aab
theorem assignNo (w:World):(ReflectliteType.relation "AssignableTo" ReflectliteType.assignableTo #[.agg #[.pointer (some ⟨6,281,none⟩)],.iface 317 (.agg #[.pointer (some ⟨6,281,none⟩)])]).run Tryz.prog w= .ok (.bool true) w:=Aab
theorem assignUnread (w:World):(ReflectliteType.relation "AssignableTo" ReflectliteType.assignableTo #[.agg #[.pointer (some ⟨6,279,none⟩)],.iface 317 (.agg #[.pointer (some ⟨6,281,none⟩)])]).run Tryz.prog w= .ok (.bool false) w:=Aab
theorem valueOfNo (p:Int) (w:World):(ReflectliteValue.unpack (.iface 281 (.agg #[.int .i64 p]))).run Tryz.prog w
 = .ok (.agg #[.pointer (some ⟨6,281,none⟩),.pointer (some ⟨w.heap.size,0,none⟩),.int .u64 153]) (w.alloc (.cells #[.int .i64 p] 281)):=Aab
theorem elemOf (w:World):(Rtype.elem? 283).run Tryz.prog w= .ok (some 281) w:=Aab
theorem aBS (p:Addr) (w:World):(ReflectliteValue.mk 281 p ReflectliteValue.flagAddr).run Tryz.prog w= .ok (.agg #[.pointer (some ⟨6,281,none⟩),.pointer (some p),.int .u64 409]) w:=Aab
theorem elemV (a p:Addr) (W:World) (ha:W.cell? a=some (.pointer (some p))):
 (ReflectliteValue.method (ReflectliteValue.valueError "reflectlite.Value.Elem" 0) ReflectliteValue.elem #[.agg #[.pointer (some ⟨6,283,none⟩),.pointer (some a),.int .u64 150]]).run Tryz.prog W
  = .ok (.agg #[.pointer (some ⟨6,281,none⟩),.pointer (some p),.int .u64 409]) W:=by
 rw [rlm];simp only[Sem.run_bind,Qq,Result.andThen];simp[ReflectliteValue.elem,loadVar,isAgg,underlying,Tryz.underlying283,ha,Result.andThen,elemOf,aBS]
theorem acB (a:Addr) (w:World):(ReflectliteValue.parts (.agg #[.pointer (some ⟨6,281,none⟩),.pointer (some a),.int .u64 409])).run Tryz.prog w= .ok (some (281,a,409)) w:=Aab
theorem aeF (a:Addr) (w:World):(ReflectliteValue.parts (.agg #[.pointer (some ⟨6,281,none⟩),.pointer (some a),.int .u64 153])).run Tryz.prog w= .ok (some (281,a,153)) w:=Aab
theorem aa4 (w:World):(Rtype.directlyAssignable 281 281).run Tryz.prog w= .ok true w:=Aab
end As
namespace As
theorem rls (v x:Value):ReflectliteValue.set #[v,x]=(do
 let(some (dst,a,fl),some (src,b,_)):=(<-ReflectliteValue.parts v,<-ReflectliteValue.parts x)
  |unsupported (.noEntry "extern/(internal/reflectlite.Value).Set.zeroValue")
 if fl / ReflectliteValue.flagAddr % 2 == 0 then unsupported (.noEntry "extern/(internal/reflectlite.Value).Set.unaddressable")
 let val<-loadVar src b
 if<-Rtype.directlyAssignable dst src then storeVar dst a val
 else if<-Rtype.implements dst src then
  if (<-Rtype.kind src) == 20 then
   match val with
   | .nilIface=>unsupported (.noEntry "extern/reflectlite: a nil value of one interface type handed on as a value of another")
   |_=>storeVar dst a val
  else storeVar dst a (.iface src val)
 else panicString ("reflectlite.Set: value of type " ++(<-Rtype.spelt src)++ " is not assignable to type " ++(<-Rtype.spelt dst))
 pure (.tuple #[])):=rfl
theorem setNo (ta b:Addr) (p:Int) (old:Value) (W:World) (hb:W.cell? b=some (.int .i64 p)) (ht:W.cell? ta=some old) (hf:W.frozen? ta=false):
 (ReflectliteValue.set #[.agg #[.pointer (some ⟨6,281,none⟩),.pointer (some ta),.int .u64 409],.agg #[.pointer (some ⟨6,281,none⟩),.pointer (some b),.int .u64 153]]).run Tryz.prog W
  = .ok (.tuple #[]) (W.setCell ta (.int .i64 p)):=by
 rw [rls];simp only[Sem.run_bind,acB,aeF,Result.andThen]
 have hl:(loadCells b 1).run Tryz.prog W= .ok #[.int .i64 p] W:=run_loadCells_list W b [.int .i64 p] (λj v hj=>by
  match j,hj with
  |0,hj=>simp at hj;subst hj;simpa [Addr.add] using hb)
 simp[ReflectliteValue.flagAddr,loadVar,isAgg,underlying,Tryz.underlying281,hl,Result.andThen,aa4,storeVar,Value.cells,storeCells,Addr.add];rw [run_store Tryz.prog W ta _ _ Aad];simp[ht,hf]
end As
set_option maxRecDepth 100000
theorem SE (w:World):CallsD Tryz.prog 143 #[] .returning w λe u' w'=>e= .returned (.tuple #[])/\u'= .returning/\w=w':=by
 refine callsD_of_wpS Tryz.func143 rfl λc₀ cs hu=>?_
 apply wpS_seq
 apply wpS_region
 simp[wpOpsS,go_sem,recoverD,hu,Tryz.ntmps143,Exit.thenS];refine wpS_of_wp ?_;show Code.wp _ _ _ {tmps:=#[.nilIface,undef,undef,.nilIface,undef,undef,undef,undef,undef,undef,undef,undef,undef,undef],defers:=[]} _
 have hnil:∀W:World,(binOp BinOp.eql 20 .nilIface .nilIface).run Tryz.prog W= .ok (.bool true) W:=λ_=>by kernel_rfl
 go_wp2_with fail;cases c₀
 simp_all [bodyPostS,results,Tryz.results143]
theorem WV (p:Int) (older:List PanicEntry) (w:World):CallsD Tryz.prog 143 #[] (.panicking ({v:= .iface 171 (.agg #[.int .i64 p]),recovered:=false}::older)) w λe u' w'=>e= .returned (.tuple #[])/\u'= .panicking ({v:= .iface 171 (.agg #[.int .i64 p]),recovered:=true}::older)/\aY w w':=by
 refine callsD_of_wpS Tryz.func143 rfl λc₀ cs hu=>?_
 apply wpS_seq
 apply wpS_region
 simp[wpOpsS,go_sem,recoverD,hu,Tryz.ntmps143,Exit.thenS];refine wpS_of_wp ?_;show Code.wp _ _ _ {tmps:=#[.iface 171 (.agg #[.int .i64 p]),undef,undef,.iface 171 (.agg #[.int .i64 p]),undef,undef,undef,undef,undef,undef,undef,undef,undef,undef],defers:=[]} _
 have hnil:∀W:World,(binOp BinOp.eql 20 (.iface 171 (.agg #[.int .i64 p])) .nilIface).run Tryz.prog W= .ok (.bool false) W:=λ_=>by kernel_rfl
 have has:∀W:World,(Instr.typeAssert (.iface 171 (.agg #[.int .i64 p])) 20 171 true).run Tryz.prog W= .ok (.tuple #[.agg #[.int .i64 p],.bool true]) W:=λ_=>by kernel_rfl
 go_wp2_with fail;have hb:Below w.heap.size w (w.alloc (.cells #[.int .i64 p] 171)):=(Below.refl _ _).alloc (Nat.le_refl _) _;cases c₀
 simp_all [bodyPostS,results,Tryz.results143]
set_option maxHeartbeats 400000
theorem LJ (s:ByteArray) (w:World) (hs:s.size<=maxLen):
 Calls Tryz.prog 218 #[.string s] w λe w'=>e= .returned (.int .u32 (65536*(Mth.sums s.data.toList).2+(Mth.sums s.data.toList).1))/\w=w':=by
 unfold maxLen at hs;go_in
 go_wp2
 go_loop [3,4,8] (λa b i=>∃k:Nat,k<=s.size/\i= .int .i64 k/\a= .int .u32 (Mth.sums (s.data.toList.take k)).1/\b= .int .u32 (Mth.sums (s.data.toList.take k)).2) (λ_ _ i=>s.size - (intOf i).toNat)
 case atStart=>exact⟨0,Nat.zero_le _,rfl,rfl,rfl⟩
 case round=>
  exact axn
theorem AJ (s:ByteArray) (w:World) (hs:s.size<=maxLen):
 Calls Tryz.prog 142 #[.string s] w λe w'=>e= .returned (.int .u32 (65536*(Mth.sums s.data.toList).2+(Mth.sums s.data.toList).1))/\w=w':=by
 unfold maxLen at hs;go_in
 go_wp2
 go_loop [3,4,5] (λa b i=>∃k:Nat,k<=s.size/\i= .int .i64 k/\a= .int .i64 (Mth.sums (s.data.toList.take k)).1/\b= .int .i64 (Mth.sums (s.data.toList.take k)).2) (λ_ _ i=>s.size - (intOf i).toNat)
 case atStart=>exact⟨0,Nat.zero_le _,rfl,rfl,rfl⟩
 case round=>
  exact axn
set_option maxHeartbeats 2000000
theorem aaV (y:Int):0<=bits .and .i64 y 255/\bits .and .i64 y 255<=255:=by
 have h:bits .and .i64 y 255=IntKind.i64.wrap ((BitVec.ofInt 64 y&&& BitVec.ofInt 64 255).toNat:Int):=rfl
 have h2:(BitVec.ofInt 64 y&&& BitVec.ofInt 64 255).toNat<=255:=by
  rw [BitVec.toNat_and];exact Nat.le_trans Nat.and_le_right Aae
 rw [h,IntWalk.i64_in _ ⟨Aaa,Aaa⟩];omega
def qA (w:World) (c:Nat):Prop:=
 ∃(a:Option Addr) (len cap i:Nat) (h:Int),w.heap[c]?=some (.cells #[.slice a len cap,.int .i64 i,.int .i64 h] 132 (0,0))/\i<=len/\len<=1048576/\
  (∀j < len,∃(b off:Nat) (z:Int),a=some ⟨b,off,none⟩/\b < c/\0<=z/\z<=255/\w.cell? ⟨b,off+j,none⟩=some (.int .u8 z))
theorem qA.lt {w:World} (h:qA w c):c < w.heap.size:=by
 obtain⟨a,len,cap,i,hh,hb,_⟩:=h;rcases Nat.lt_or_ge c w.heap.size with h'|h'
 .exact h'
 .rw [Array.getElem?_eq_none h'] at hb;cases hb
theorem qA.below {w:World} (h:qA w c) (hb:Below B w w') (hB:c < B):qA w' c:=by
 obtain⟨a,len,cap,i,hh,hblk,h1,h2,h3⟩:=h;refine⟨a,len,cap,i,hh,by rw [hb.block c hB];exact hblk,h1,h2,λj hj=>?_⟩;obtain⟨b,off,z,e,hbc,z0,z1,hc⟩:=h3 j hj;exact⟨b,off,z,e,hbc,z0,z1,by rw [hb.cell (p:=⟨b,off+j,none⟩) (show b < B by omega)];exact hc⟩
theorem BK {w:World} {cs:Array Value} {t:TypeId} (h:w.heap[c]?=some (.cells cs t (0,0))) (i:Nat) (v:Value):(w.setCell ⟨c,i,none⟩ v).heap[c]?=some (.cells (cs.setIfInBounds i v) t (0,0)):=by
 exact WG
theorem WX {w:World} {i':Nat} {h h':Int} (hblk:w.heap[c]?=some (.cells #[.slice a len cap,.int .i64 i,.int .i64 h] 132 (0,0))) (hi:i'<=len) (hlen:len<=1048576) (hcode:∀j < len,∃(b off:Nat) (z:Int),a=some ⟨b,off,none⟩/\b < c/\0<=z/\z<=255/\w.cell? ⟨b,off+j,none⟩=some (.int .u8 z)):
 qA ((w.setCell ⟨c,2,none⟩ (.int .i64 h')).setCell ⟨c,1,none⟩ (.int .i64 (i':Int))) c:=by
 have h1:=BK (BK hblk 2 (.int .i64 h')) 1 (.int .i64 (i':Int));refine⟨a,len,cap,i',h',Aap,hi,hlen,λj hj=>?_⟩;obtain⟨b,off,z,e,hbc,z0,z1,hc⟩:=hcode j hj;refine⟨b,off,z,e,hbc,z0,z1,?_⟩;rw [World.cell?_setCell_other _ _ _ _ (by intro e;have:=congrArg Addr.block e;simp at this;omega),World.cell?_setCell_other _ _ _ _ (by intro e;have:=congrArg Addr.block e;simp at this;omega)];exact hc
theorem SK {w:World} {h h':Int} (hblk:w.heap[c]?=some (.cells #[.slice a len cap,.int .i64 i,.int .i64 h] 132 (0,0))) (hi:i<=len) (hlen:len<=1048576) (hcode:∀j < len,∃(b off:Nat) (z:Int),a=some ⟨b,off,none⟩/\b < c/\0<=z/\z<=255/\w.cell? ⟨b,off+j,none⟩=some (.int .u8 z)):
 qA (w.setCell ⟨c,2,none⟩ (.int .i64 h')) c:=by
 have h1:=BK hblk 2 (.int .i64 h');refine⟨a,len,cap,i,h',Aap,hi,hlen,λj hj=>?_⟩;obtain⟨b,off,z,e,hbc,z0,z1,hc⟩:=hcode j hj;refine⟨b,off,z,e,hbc,z0,z1,?_⟩;rw [World.cell?_setCell_other _ _ _ _ (by intro e;have:=congrArg Addr.block e;simp at this;omega)];exact hc
theorem Keeps.drewN {q:Nat} {w:World} (h:Keeps c w w'):Keeps c w (w'.drewN q):=⟨h.os,h.tape,h.output,h.size,h.block⟩
theorem zP (c:Nat) (w:World) (hc:qA w c):
 Calls Tryz.prog 122 #[.pointer (some ⟨c,0,none⟩)] w λe w'=>∃x:Int,e= .returned (.int .i64 x)/\0<=x/\x<=255/\qA w' c/\Keeps c w w':=by
 obtain⟨a,len,cap,i,h,hblk,hil,hlen,hcode⟩:=hc;have c0:w.cell? ⟨c,0,none⟩=some (.slice a len cap):=by rw [cell_of_row w c 0 _ _ (0,0) hblk];rfl
 have c1:w.cell? ⟨c,1,none⟩=some (.int .i64 i):=by rw [cell_of_row w c 1 _ _ (0,0) hblk];rfl
 have c2:w.cell? ⟨c,2,none⟩=some (.int .i64 h):=by rw [cell_of_row w c 2 _ _ (0,0) hblk];rfl
 have f1:w.frozen? ⟨c,1,none⟩=false:=by unfold World.frozen?;rw [hblk];rfl
 have f2:w.frozen? ⟨c,2,none⟩=false:=by unfold World.frozen?;rw [hblk];rfl
 have HB:=Hq hblk;have Jp:=Hq hcode;clear hblk hcode;by_cases hlt:i < len
 .obtain⟨b,off,z,rfl,hbc,z0,z1,hz⟩:=ah Jp i hlt;have hne:b≠c:=Aaa
  open aqe in exact aff
 .have hnlt:decide ((i:Int) < (len:Int))=false:=Aaf
  open aqd in exact aff
end Go.Proofs.YtacgbldlonoaaaaGreatDoor
