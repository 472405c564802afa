/- Parts. -/
import Derived.Test.YtbolgdleijjgfaaGreatDoorRf1
namespace Go.Proofs.YtbolgdleijjgfaaGreatDoor
open Go.Proofs.Tryz
open Go.RowKit
open Mth
variable (x a b:Int) (w:World) {g:Nat}
theorem nP (h1:a<=x) (h2:x<=b):Calls prog 47 #[.int .i64 x,.int .i64 a,.int .i64 b] w λe w'=>e= .returned (.bool true)/\w=w':=by
 exact aa9
theorem YJ (h1:x < a):Calls prog 47 #[.int .i64 x,.int .i64 a,.int .i64 b] w λe w'=>e= .returned (.bool false)/\w=w':=by
 have h2:¬a<=x:=Aaa
 exact aa9
theorem Ur (h1:a<=x) (h3:b < x):Calls prog 47 #[.int .i64 x,.int .i64 a,.int .i64 b] w λe w'=>e= .returned (.bool false)/\w=w':=by
 have h2:¬x<=b:=Aaa
 exact aa9
theorem qQ (h:x < a\/b < x):Calls prog 47 #[.int .i64 x,.int .i64 a,.int .i64 b] w λe w'=>e= .returned (.bool false)/\w=w':=by
 by_cases h1:x < a
 .exact YJ x a b w h1
 .exact Ur x a b w Aaa Aaa
set_option maxHeartbeats 1000000
set_option maxRecDepth 100000
theorem K7 (s:ByteArray) (w:World) (hs:s.size<=maxLen):
 Calls prog 93 #[.string s] w λe w'=>e= .returned (.bool (Mth.keyOk s.data.toList))/\w=w':=by
 unfold maxLen at hs;go_in
 go_wp2
 go_loop [3] (λi=>∃k:Nat,k<=s.size/\i= .int .i64 k/\(s.data.toList.take k).all Mth.keyByte=true) (λi=>s.size - (intOf i).toNat)
 case atStart=>exact⟨0,aE7 _,rfl,rfl⟩
 case round=>
  obtain⟨k,hk,rfl,hall⟩:=hrel;have HA:=Hq hall;clear hall;by_cases hlt:k < s.size
  .open as0 in exact agD
  .open avJ in exact ahg
theorem KY (n:Int) (w:World) (h1:97<=n) (h2:n<=122):Calls prog 207 #[.int .u8 n] w λe w'=>e= .returned (.bool true)/\w=w':=by
 exact aa7
theorem Q7 (n:Int) (w:World) (h:n < 97\/122 < n):Calls prog 207 #[.int .u8 n] w λe w'=>e= .returned (.bool false)/\w=w':=by
 by_cases h1:97<=n
 .have h2:¬n<=122:=Aaa
  clear h;exact aa7
 .clear h;exact aa7
theorem J4 (n:Int) (w:World) (h1:48<=n) (h2:n<=57):Calls prog 208 #[.int .u8 n] w λe w'=>e= .returned (.bool true)/\w=w':=by
 exact aa8
theorem Pn (n:Int) (w:World) (h:n < 48\/57 < n):Calls prog 208 #[.int .u8 n] w λe w'=>e= .returned (.bool false)/\w=w':=by
 by_cases h1:48<=n
 .have h2:¬n<=57:=Aaa
  clear h;exact aa8
 .clear h;exact aa8
set_option maxHeartbeats 1000000
theorem Ki (s:ByteArray) (w:World):
 Calls prog 190 #[.string s] w λe w'=>e= .returned (.bool (Mth.keyOk s.data.toList))/\w=w':=by
 by_cases hlen:(1:Int)<=(s.size:Int)/\(s.size:Int)<=10
 .obtain⟨hs1,hs2⟩:=hlen;have hne:s.toList.isEmpty=false:=kW s Aaa;have h10:decide (10 < (s.size:Int))=false:=Aah
  go_in
  go_wp2
  go_loop [13] (λi=>∃k:Nat,k<=s.size/\i= .int .i64 k/\(s.data.toList.take k).all Mth.keyByte=true) (λi=>s.size - (intOf i).toNat)
  case atStart=>exact⟨0,aE7 _,rfl,rfl⟩
  case round=>
   obtain⟨k,hk,rfl,hall⟩:=hrel;have HA:=Hq hall;clear hall;by_cases hlt:k < s.size
   .open as1 in exact agD
   .open avK in exact ahg
 .have HF:Hid (Mth.keyOk s.data.toList=false):=Mth.keyOk_len _ (by rw [bf];omega);by_cases h0:s.size=0
  .have he:s=ByteArray.empty:=eq_empty s h0;subst he;exact aiP
  .have hne:s.toList.isEmpty=false:=kW s Aaa;have h10:10 < (s.size:Int):=Aaa
   exact aiP
def yQ (x a b:Int):Prop:=a<=x/\x<=b
instance (x a b:Int):Decidable (yQ x a b):=by unfold yQ;infer_instance
theorem Uq:Calls prog 47 #[.int .i64 x,.int .i64 a,.int .i64 b] w λe w'=>e= .returned (.bool (decide (yQ x a b)))/\w=w':=by
 by_cases h:yQ x a b
 .rw [aET h];exact nP x a b w h.1 h.2
 .rw [aES h];exact qQ x a b w (by unfold yQ at h;omega)
theorem xM (n:Int) (w:World):Calls prog 91 #[.int .i64 n] w λe w'=>e= .returned (.bool (decide (yQ n 0 1000000000)))/\w=w':=by
 go_in
 go_wp2_with (go_at_call 47;refine(Uq _ _ _ _).mono ?_;rintro e w1 ⟨rfl,rfl⟩)
 go_ret;exact⟨rfl,rfl⟩
def azP (w:World) (g:Nat) (xs:List ByteArray):Prop:=w.heap[g]?=some (.cells (xs.map Value.string).toArray 9 (0,0))
structure Keeps (g:Nat) (w w':World):Prop where
 os:w'.os=w.os
 tape:w'.tape=w.tape
 output:w'.output=w.output
 size:w.heap.size<=w'.heap.size
 block:∀k,k < w.heap.size->k≠g->w'.heap[k]?=w.heap[k]?
theorem Keeps.refl (g:Nat) (w:World):Keeps g w w:=⟨rfl,rfl,rfl,aER _,λ_ _ _=>rfl⟩
theorem Keeps.trans {a b c:World} (h:Keeps g a b) (k:Keeps g b c):Keeps g a c:=
 ⟨k.os.trans h.os,k.tape.trans h.tape,k.output.trans h.output,aEU h.size k.size,λi hi hg=>(k.block i (aEZ hi h.size) hg).trans (h.block i hi hg)⟩
theorem Keeps.of_below {w w':World} (h:aH w w'):Keeps g w w':=⟨h.os,h.tape,h.output,h.size,λk hk _=>h.block k hk⟩
theorem Keeps.set {i:Nat} {w:World} (v:Value):Keeps g w (w.setCell ⟨g,i,none⟩ v):=
 ⟨rfl,rfl,rfl,Aaq,λk _ hg=>aFe _ _ _ _ hg⟩
theorem Keeps.below {B:Nat} {w w':World} (h:Keeps g w w') (hB:B<=g) (hs:B<=w.heap.size):Below B w w':=⟨h.os,h.tape,h.output,h.size,λk hk=>h.block k Aaa Aaa⟩
end Go.Proofs.YtbolgdleijjgfaaGreatDoor
namespace Go.Proofs
open Go.Shelf YtbolgdleijjgfaaGreatDoor
def Tryz.sortL_ren:Go.Shelf.Ren:=⟨fun|5=>209|8=>228|7=>227|19=>264|20=>265|10=>255|11=>256|12=>257|13=>258|14=>259|15=>260|16=>261|17=>262|18=>263|30=>282|31=>283|32=>284|33=>285|34=>286|35=>287|40=>299|n=>n,fun|23=>22|25=>3|3=>3|32=>204|22=>22|0=>0|44=>109|46=>283|4=>4|36=>275|35=>274|41=>235|5=>5|9=>9|53=>314|57=>318|63=>337|64=>173|n=>n,fun|n=>n⟩
theorem Tryz.sortL:Go.Proofs.SlLaysM.n5 Tryz.prog Tryz.sortL_ren:={
 mixed:=Aab
 f5:=⟨Tryz.f209.name,Aae,Tryz.func209.trans (congrArg some Aab)⟩
 f7:=⟨Tryz.f227.name,Aae,Tryz.func227.trans (congrArg some Aab)⟩
 f8:=Tryz.func228.trans (congrArg some Aab)
 f10:=⟨Tryz.f255.name,Aae,Tryz.func255.trans (congrArg some Aab)⟩
 f11:=⟨Tryz.f256.name,Aae,Tryz.func256.trans (congrArg some Aab)⟩
 f12:=⟨Tryz.f257.name,Aae,Tryz.func257.trans (congrArg some Aab)⟩
 f13:=⟨Tryz.f258.name,Aae,Tryz.func258.trans (congrArg some Aab)⟩
 f14:=⟨Tryz.f259.name,Aae,Tryz.func259.trans (congrArg some Aab)⟩
 f15:=⟨Tryz.f260.name,Aae,Tryz.func260.trans (congrArg some Aab)⟩
 f16:=⟨Tryz.f261.name,Aae,Tryz.func261.trans (congrArg some Aab)⟩
 f17:=⟨Tryz.f262.name,Aae,Tryz.func262.trans (congrArg some Aab)⟩
 f18:=⟨Tryz.f263.name,Aae,Tryz.func263.trans (congrArg some Aab)⟩
 f19:=Tryz.func264.trans (congrArg some Aab)
 f20:=Tryz.func265.trans (congrArg some Aab)
 f30:=⟨Tryz.f282.name,Aae,Tryz.func282.trans (congrArg some Aab)⟩
 f31:=Tryz.func283.trans (congrArg some Aab)
 f32:=Tryz.func284.trans (congrArg some Aab)
 f33:=⟨Tryz.f285.name,Aae,Tryz.func285.trans (congrArg some Aab)⟩
 f34:=⟨Tryz.f286.name,Aae,Tryz.func286.trans (congrArg some Aab)⟩
 f35:=⟨Tryz.f287.name,Aae,Tryz.func287.trans (congrArg some Aab)⟩
 f40:=⟨Tryz.f299.name,Aae,Tryz.func299.trans (congrArg some Aab)⟩
 t0:=Tryz.underlying0
 a0:=Tryz.isAgg0
 z0:=Tryz.sizeOf0
 v0:=Tryz.zeroValue0
 t3:=Tryz.underlying3
 a3:=Tryz.isAgg3
 z3:=Tryz.sizeOf3
 v3:=Tryz.zeroValue3
 t4:=Tryz.underlying4
 a4:=Tryz.isAgg4
 z4:=Tryz.sizeOf4
 v4:=Tryz.zeroValue4
 t5:=Tryz.underlying5
 a5:=Tryz.isAgg5
 z5:=Tryz.sizeOf5
 v5:=Tryz.zeroValue5
 t9:=Tryz.underlying9
 a9:=Tryz.isAgg9
 z9:=Tryz.sizeOf9
 v9:=Tryz.zeroValue9
 t22:=Tryz.underlying22
 a22:=Tryz.isAgg22
 z22:=Tryz.sizeOf22
 v22:=Tryz.zeroValue22
 t23:=Tryz.underlying22
 a23:=Tryz.isAgg22
 z23:=Tryz.sizeOf22
 v23:=Tryz.zeroValue22
 t25:=Tryz.underlying3
 a25:=Tryz.isAgg3
 z25:=Tryz.sizeOf3
 v25:=Tryz.zeroValue3
 t32:=Tryz.underlying204
 a32:=Tryz.isAgg204
 z32:=Tryz.sizeOf204
 v32:=Tryz.zeroValue204
 t35:=Tryz.underlying274
 a35:=Tryz.isAgg274
 z35:=Tryz.sizeOf274
 v35:=Tryz.zeroValue274
 t36:=Tryz.underlying275
 a36:=Tryz.isAgg275
 z36:=Tryz.sizeOf275
 v36:=Tryz.zeroValue275
 t41:=Tryz.underlying235
 a41:=Tryz.isAgg235
 z41:=Tryz.sizeOf235
 v41:=Tryz.zeroValue235
 t44:=Tryz.underlying109
 a44:=Tryz.isAgg109
 z44:=Tryz.sizeOf109
 v44:=Tryz.zeroValue109
 t46:=Tryz.underlying283
 a46:=Tryz.isAgg283
 z46:=Tryz.sizeOf283
 v46:=Tryz.zeroValue283
 t53:=Tryz.underlying314
 a53:=Tryz.isAgg314
 z53:=Tryz.sizeOf314
 v53:=Tryz.zeroValue314
 t57:=Tryz.underlying318
 a57:=Tryz.isAgg318
 z57:=Tryz.sizeOf318
 v57:=Tryz.zeroValue318
 t63:=Tryz.underlying337
 a63:=Tryz.isAgg337
 z63:=Tryz.sizeOf337
 v63:=Tryz.zeroValue337
 t64:=Tryz.underlying173
 a64:=Tryz.isAgg173
 z64:=Tryz.sizeOf173
 v64:=Tryz.zeroValue173}
end Go.Proofs
namespace Go.Proofs.YtbolgdleijjgfaaGreatDoor
open Go.Proofs.Tryz
set_option maxRecDepth 100000
open Go.RowKit Go.Extern.Stop Go.Stop Go.Extern
open Mth
variable (v:Value) (xT:TypeId) (w:World) {E:Nat->Addr} {P:Program}
structure iy (w:World) (E:Nat->Addr):Prop where
 var:∀i,(1<=i/\i < 6)->w.cell? ⟨i,0,none⟩=some (.iface 374 (.pointer (some (E i))))
 row:∀i,(1<=i/\i < 6)->∃c t,w.heap[(E i).block]?=some (.cells c t (0,0))
 ne:∀i j,(1<=i/\i < 6)->(1<=j/\j < 6)->i≠j->E i≠E j
theorem iy.below {w w':World} (h:iy w E) (hb:aH w w'):iy w' E:=by
 refine⟨λi hi=>?_,λi hi=>?_,h.ne⟩
 .rw [hb.cell (p:=⟨i,0,none⟩) (aFT _ _ (h.var i hi))];exact h.var i hi
 .obtain⟨c,t,hc⟩:=h.row i hi;refine⟨c,t,?_⟩;rw [hb.block _ ?_]
  .exact hc
  .rcases aF2 (E i).block w.heap.size with h'|h'
   .exact h'
   .rw [aFO h'] at hc;cases hc
abbrev uN (a:Addr):Value:= .iface 374 (.pointer (some a))
namespace Is
theorem typeOf (v:Value) (w:World):(Extern.ReflectliteType.typeOf #[.iface 374 v]).run Tryz.prog w= .ok (.iface 340 (.agg #[.pointer (some ⟨6,374,none⟩)])) w:=Aab
def cmp:Array Value->Sem Value:=Extern.ReflectliteType.method λt=>do Extern.Rtype.noPackHeld "Comparable" t;pure (.bool (<-typeInfo t).comparable)
theorem comparable (w:World):(cmp #[.agg #[.pointer (some ⟨6,374,none⟩)]]).run Tryz.prog w= .ok (.bool true) w:=Aab
theorem methodComparable (v:Value) (w:World):(Go.method 503 340 v "Comparable").run Tryz.prog w= .ok (351,v) w:=Aab
theorem comp:(Tryz.prog.info? 374).map (·.comparable)=some true:=Aab
theorem size:(Tryz.prog.info? 392).map (·.size)=some 1:=Aab
theorem noIs:(Instr.typeAssert (.iface 374 v) xT 368 true).run Tryz.prog w= .ok (.tuple #[.nilIface,.bool false]) w:=run_typeAssert_lacksB Tryz.underlying368 Aab Aab v xT w
theorem noUnwrap:(Instr.typeAssert (.iface 374 v) xT 348 true).run Tryz.prog w= .ok (.tuple #[.nilIface,.bool false]) w:=run_typeAssert_lacksB Tryz.underlying348 Aab Aab v xT w
theorem noUnwraps:(Instr.typeAssert (.iface 374 v) xT 350 true).run Tryz.prog w= .ok (.tuple #[.nilIface,.bool false]) w:=run_typeAssert_lacksB Tryz.underlying350 Aab Aab v xT w
end Is
theorem afi (a:Addr) (w:World):Calls Tryz.prog 295 #[uN a,uN a] w λe w'=>e= .returned (.bool true)/\w=w':=by
 open aqw in exact aw8
theorem ak6 (b:Addr) (w:World):Calls Tryz.prog 295 #[.nilIface,uN b] w λe w'=>e= .returned (.bool false)/\w=w':=by
 have hn:=run_eql_iface_nil_left (P:=Tryz.prog) w 374 (.pointer (some b)) Tryz.underlying247;go_in
 go_wp2
 go_ret;exact⟨rfl,rfl⟩
theorem acA (a b:Addr) (ca cb:Array Value) (ta tb:TypeId) (w:World) (hne:a≠b) (ha:w.heap[a.block]?=some (.cells ca ta (0,0))) (hb:w.heap[b.block]?=some (.cells cb tb (0,0))):
 Calls Tryz.prog 295 #[uN a,uN b] w λe w'=>e= .returned (.bool false)/\w=w':=by
 open aqv in exact aw8
theorem aja {w:World} {E:Nat->Addr} (h:iy w E) (i j:Nat) (b:Bool) (hi:(1<=i/\i < 6)) (hj:(1<=j/\j < 6)) (hb:(i == j)=b):Calls Tryz.prog 295 #[uN (E i),uN (E j)] w λe w'=>e= .returned (.bool b)/\w=w':=by
 cases b with
 |true=>
  have e:i=j:=by simpa using hb
  subst e;exact afi (E i) w
 |false=>
  obtain⟨c1,t1,h1⟩:=h.row i hi;obtain⟨c2,t2,h2⟩:=h.row j hj;exact acA (E i) (E j) c1 c2 t1 t2 w (h.ne i j hi hj (by simpa using hb)) h1 h2
set_option maxHeartbeats 2000000
set_option maxRecDepth 100000
open Go.RowKit
theorem Jf {w:World} (h:iy w E):Calls Tryz.prog 274 #[.nilIface] w λe w'=>e= .returned (.bool false)/\w=w':=by
 have v0:=h.var 1 Aaa;have v1:=h.var 2 Aaa;have v2:=h.var 3 Aaa;have v3:=h.var 4 Aaa;have v4:=h.var 5 Aaa;have HE:=Hq h;clear h;go_in
 go_wp2_with (go_at_call 295;refine(ak6 _ _).mono ?_;rintro e w1 ⟨rfl,rfl⟩)
 go_ret;exact⟨rfl,rfl⟩
theorem MJ {w:World} (h:iy w E) (i:Nat) (hi:(1<=i/\i < 6)):Calls Tryz.prog 274 #[uN (E i)] w λe w'=>e= .returned (.bool true)/\w=w':=by
 have v0:=h.var 1 Aaa;have v1:=h.var 2 Aaa;have v2:=h.var 3 Aaa;have v3:=h.var 4 Aaa;have v4:=h.var 5 Aaa;have HE:=Hq h;clear h;have h5:i=1\/i=2\/i=3\/i=4\/i=5:=Aaa
 rcases h5 with rfl|rfl|rfl|rfl|rfl
 all_goals
  go_in
  go_wp2_with (go_at_call 295;first|(refine(aja HE _ _ true Aaa Aaa Aae).mono ?_;rintro e w1 ⟨rfl,rfl⟩)|(refine(aja HE _ _ false Aaa Aaa Aae).mono ?_;rintro e w1 ⟨rfl,rfl⟩))
  go_ret
  exact⟨rfl,rfl⟩
open Mth
theorem kX (w:World) (base:Nat) (t ty e:TypeId) (i:TypeInfo) (z:Value) (size bytes:Nat) (ht:P.underlying t=some (.slice e)) (hi:P.info? e=some i) (hz:i.zero=some z) (hsize:i.size=size) (hby:i.bytes=bytes) (hzs:z.cells.size=size) (hsz:0 < size) (v:Value) (n:Nat) (xs:List Value) (hown:w.ownsRow base e size v n xs) (a:Addr) (m c:Nat) (news:List Value) (hl:news.length=m*size) (hnews:∀j u,news[j]?=some u->w.cell? (a.add j)=some u) (h1:∀u∈news,u.oneCell'=true) (h63:n+m<=maxLen) (hbytes:(n+m)*bytes<=140737488355328) (hbase:base<=w.heap.size):
 ∃v' w',(Builtin.append_ #[t,t] ty #[v,.slice (some a) m c]).run P w= .ok v' w'/\w'.ownsRow base e size v' (n+m) (xs++news)/\w.grownBy w' v.ownBlock/\
  ∀x,v'.ownBlock=some x->v.ownBlock=some x\/w.heap.size<=x:=by
 obtain⟨v',w',hr,ho,hg,_⟩:=run_append_own w base t ty e i z size bytes ht hi hz hsize hby hzs hsz v n xs hown a m c news hl hnews h1 h63 hbytes hbase;refine⟨v',w',hr,ho,hg,λx hx=>?_⟩;have hsmall:n+m<=9223372036854775807:=by simp only[maxLen] at h63;omega
 rcases hown.2 with⟨rfl,rfl⟩|⟨g,cap,cur,rfl,hbg,hgg,hnc,hcm,hcs,htake⟩
 .have hxs:xs=[]:=aFk (by simpa using hown.1);subst hxs;obtain⟨v2,w2,hr2,ho2,_,_⟩:=run_append_own w w.heap.size t ty e i z size bytes ht hi hz hsize hby hzs hsz (.slice none 0 0) 0 [] (World.ownsRow_nil w _ e size) a m c news hl hnews h1 h63 hbytes (aER _);have he:=hr.symm.trans hr2;simp only[Result.ok.injEq] at he;obtain⟨rfl,rfl⟩:=he;exact .inr (ho2.lt x hx).1
 .subst hsize;subst hby;by_cases hroom:n+m<=cap
  .have hfit:n*i.size+news.length<=cur.size:=by rw [hl,hcs,<-aGC];exact aGk _ hroom
   have hr2:=run_append_room (P:=P) w t ty e i ht hi g n cap cur hgg a m c news hl hnews h1 hroom hfit;have he:=hr.symm.trans hr2;simp only[Result.ok.injEq] at he;obtain⟨rfl,_⟩:=he;exact .inl hx
  .have holds:∀j u,xs[j]?=some u->w.cell? ((⟨g,0,none⟩:Addr).add j)=some u:=hown.cells (g:=g) rfl;have hr2:=run_append_grow (P:=P) w t ty e i z ht hi hz ⟨g,0,none⟩ n cap xs hown.1 holds a m c news hl hnews Aaa Aaa (growslice_fits Aaa hbytes);have he:=hr.symm.trans hr2;simp only[Result.ok.injEq] at he;obtain⟨rfl,_⟩:=he;have:w.heap.size=x:=Abl
   exact .inr Aaa
theorem pX (w:World) {o:Oper} {a:Act} {K:Act->World->Prop} {Q:Exit->Act->World->Prop} (s x:Operand) (t:TypeId)
 (ho:o.op= .call {callee:= .builtin .append,args:=#[s,x],argTypes:=#[t,t]})
 (base:Nat) (e:TypeId) (i:TypeInfo) (z:Value) (size bytes:Nat) (ht:P.underlying t=some (.slice e)) (hi:P.info? e=some i) (hz:i.zero=some z)
 (hsize:i.size=size) (hby:i.bytes=bytes) (hzs:z.cells.size=size) (hsz:0 < size)
 (v:Value) (n:Nat) (xs:List Value) (hs:a.eval s=v) (hown:w.ownsRow base e size v n xs)
 (ad:Addr) (m c:Nat) (news:List Value) (hx:a.eval x= .slice (some ad) m c) (hl:news.length=m*size) (hnews:∀j u,news[j]?=some u->w.cell? (ad.add j)=some u) (h1:∀u∈news,u.oneCell'=true)
 (h63:n+m<=maxLen) (hbytes:(n+m)*bytes<=140737488355328) (hbase:base<=w.heap.size)
 (h:∀v' w',w'.ownsRow base e size v' (n+m) (xs++news)->w.grownBy w' v.ownBlock->(∀x,v'.ownBlock=some x->v.ownBlock=some x\/w.heap.size<=x)->K (a.put o.dst v') w'):o.wp P a w K Q:=by
 obtain⟨v',w',hr,h2,h3,h4⟩:=kX w base t o.type e i z size bytes ht hi hz hsize hby hzs hsz v n xs hown ad m c news hl hnews h1 h63 hbytes hbase;exact aGP w s x t t ho _ _ hs hx v' w' hr (h v' w' h2 h3 h4)
end Go.Proofs.YtbolgdleijjgfaaGreatDoor
namespace Go.Proofs
open Go.Shelf YtbolgdleijjgfaaGreatDoor
def Tryz.keysL_ren:Go.Shelf.Ren:=⟨fun|7=>281|10=>298|n=>n,fun|23=>304|26=>3|3=>107|28=>312|0=>0|27=>311|33=>144|4=>4|n=>n,fun|n=>n⟩
theorem Tryz.keysL:Go.Proofs.SlLaysZI.n7 Tryz.prog Tryz.keysL_ren:={
 mixed:=Aab
 f7:=⟨Tryz.f281.name,Aae,Tryz.func281.trans (congrArg some Aab)⟩
 f10:=⟨Tryz.f298.name,Aae,Tryz.func298.trans (congrArg some Aab)⟩
 t0:=Tryz.underlying0
 a0:=Tryz.isAgg0
 z0:=Tryz.sizeOf0
 v0:=Tryz.zeroValue0
 t4:=Tryz.underlying4
 a4:=Tryz.isAgg4
 z4:=Tryz.sizeOf4
 v4:=Tryz.zeroValue4
 t23:=Tryz.underlying304
 a23:=Tryz.isAgg304
 z23:=Tryz.sizeOf304
 v23:=Tryz.zeroValue304
 t26:=Tryz.underlying3
 a26:=Tryz.isAgg3
 z26:=Tryz.sizeOf3
 v26:=Tryz.zeroValue3
 t27:=Tryz.underlying311
 a27:=Tryz.isAgg311
 z27:=Tryz.sizeOf311
 v27:=Tryz.zeroValue311
 t28:=Tryz.underlying312
 a28:=Tryz.isAgg312
 z28:=Tryz.sizeOf312
 v28:=Tryz.zeroValue312
 t33:=Tryz.underlying144
 a33:=Tryz.isAgg144
 z33:=Tryz.sizeOf144
 v33:=Tryz.zeroValue144}
def Tryz.sortedL_ren:Go.Shelf.Ren:=⟨fun|6=>280|8=>297|9=>209|11=>309|13=>228|12=>227|23=>264|24=>265|14=>255|15=>256|16=>257|17=>258|18=>259|19=>260|20=>261|21=>262|22=>263|25=>282|26=>283|27=>284|28=>285|29=>286|30=>287|31=>299|n=>n,fun|26=>3|28=>312|24=>22|0=>0|3=>3|37=>204|48=>109|50=>283|4=>4|40=>275|39=>274|45=>235|5=>5|9=>9|51=>314|55=>318|57=>337|58=>173|33=>144|n=>n,fun|n=>n⟩
theorem Tryz.sortedL:Go.Proofs.SlLaysZI.n6 Tryz.prog Tryz.sortedL_ren:={
 mixed:=Aab
 f6:=⟨Tryz.f280.name,Aae,Tryz.func280.trans (congrArg some Aab)⟩
 f8:=⟨Tryz.f297.name,Aae,Tryz.func297.trans (congrArg some Aab)⟩
 f11:=⟨Tryz.f309.name,Aae,Tryz.func309.trans (congrArg some Aab)⟩
 t0:=Tryz.underlying0
 a0:=Tryz.isAgg0
 z0:=Tryz.sizeOf0
 v0:=Tryz.zeroValue0
 t24:=Tryz.underlying22
 a24:=Tryz.isAgg22
 z24:=Tryz.sizeOf22
 v24:=Tryz.zeroValue22
 t26:=Tryz.underlying3
 a26:=Tryz.isAgg3
 z26:=Tryz.sizeOf3
 v26:=Tryz.zeroValue3
 t28:=Tryz.underlying312
 a28:=Tryz.isAgg312
 z28:=Tryz.sizeOf312
 v28:=Tryz.zeroValue312
 i26:=by kernel_rfl}
end Go.Proofs
namespace Go.Proofs.YtbolgdleijjgfaaGreatDoor
open Go.Proofs.Tryz
set_option maxHeartbeats 400000
set_option maxRecDepth 100000
open Go.RowKit
theorem Ml (s:ByteArray) (w:World) (hs:s.size<=maxLen):
 Calls prog 231 #[.string s] w λe w'=>e= .returned (.int .u32 (65536*(Mth.sums s.data.toList).2+(Mth.sums s.data.toList).1))/\w=w':=by
 unfold maxLen at hs;go_in
 go_wp2
 go_loop [3,4,8] (λa b i=>∃k:Nat,k<=s.size/\i= .int .i64 k/\a= .int .u32 (Mth.sums (s.data.toList.take k)).1/\b= .int .u32 (Mth.sums (s.data.toList.take k)).2) (λ_ _ i=>s.size - (intOf i).toNat)
 case atStart=>exact⟨0,aE7 _,rfl,rfl,rfl⟩
 case round=>
  exact axQ
theorem Nq (s:ByteArray) (w:World) (hs:s.size<=maxLen):
 Calls prog 97 #[.string s] w λe w'=>e= .returned (.int .u32 (65536*(Mth.sums s.data.toList).2+(Mth.sums s.data.toList).1))/\w=w':=by
 unfold maxLen at hs;go_in
 go_wp2
 go_loop [3,4,5] (λa b i=>∃k:Nat,k<=s.size/\i= .int .i64 k/\a= .int .i64 (Mth.sums (s.data.toList.take k)).1/\b= .int .i64 (Mth.sums (s.data.toList.take k)).2) (λ_ _ i=>s.size - (intOf i).toNat)
 case atStart=>exact⟨0,aE7 _,rfl,rfl,rfl⟩
 case round=>
  exact axQ
open Go
theorem BH {H:Type} {enc:TypeId×Value->H} {P:Program} {w:World} {sp:Nat->Bool}:∀{ns:List String} {gs:List (DataW H)} {ps:List MemPlace},DataW.TrodVars enc P w sp ns gs ps->gs.length=ns.length
 |[],[],_,_=>rfl
 |[],_::_,_,h=>h.elim
 |_::_,[],_,h=>h.elim
 |_::ns,_::ds,_,h=>by
  obtain⟨_,_,_,_,_,_,_,_,_,_,hs,_⟩:=h
  have:=BH hs
  simp[this]
theorem Ve {α:Type} {gs:List α} (h:gs.length=5):∃a b c d e,gs=[a,b,c,d,e]:=by
 match gs,h with
 |[a,b,c,d,e],_=>exact⟨a,b,c,d,e,rfl⟩
end Go.Proofs.YtbolgdleijjgfaaGreatDoor
