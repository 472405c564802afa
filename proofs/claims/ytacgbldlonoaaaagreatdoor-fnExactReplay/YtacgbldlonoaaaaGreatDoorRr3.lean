/- Parts. -/
import Derived.Test.YtacgbldlonoaaaaGreatDoorRr1
namespace Go.Proofs.YtacgbldlonoaaaaGreatDoor
set_option maxHeartbeats 2000000
open Go.RowKit
theorem oh (x a b:Int) (w:World) (h1:a<=x) (h2:x<=b):Calls Tryz.prog 63 #[.int .i64 x,.int .i64 a,.int .i64 b] w λe w'=>e= .returned (.bool true)/\w=w':=by
 exact Xq
theorem Uk (x a b:Int) (w:World) (h1:x < a):Calls Tryz.prog 63 #[.int .i64 x,.int .i64 a,.int .i64 b] w λe w'=>e= .returned (.bool false)/\w=w':=by
 have h2:¬a<=x:=Aaa
 exact Xq
theorem Qk (x a b:Int) (w:World) (h1:a<=x) (h3:b < x):Calls Tryz.prog 63 #[.int .i64 x,.int .i64 a,.int .i64 b] w λe w'=>e= .returned (.bool false)/\w=w':=by
 have h2:¬x<=b:=Aaa
 exact Xq
theorem qM (x a b:Int) (w:World) (h:x < a\/b < x):Calls Tryz.prog 63 #[.int .i64 x,.int .i64 a,.int .i64 b] w λe w'=>e= .returned (.bool false)/\w=w':=by
 by_cases h1:x < a
 .exact Uk x a b w h1
 .exact Qk x a b w Aaa Aaa
set_option maxRecDepth 100000
theorem Iq (s:ByteArray) (w:World) (hs:s.size<=maxLen):
 Calls Tryz.prog 64 #[.string s] w λe w'=>e= .returned (.bool (Mth.keyOk s.data.toList))/\w=w':=by
 unfold maxLen at hs;go_enter Tryz.func64,Tryz.ntmps64
 go_wp2
 go_loop [3] (λi=>∃k:Nat,k<=s.size/\i= .int .i64 k/\(s.data.toList.take k).all Mth.keyByte=true) (λi=>s.size - (intOf i).toNat)
 case atStart=>exact⟨0,Nat.zero_le _,rfl,rfl⟩
 case round=>
  obtain⟨k,hk,rfl,hall⟩:=hrel;have HA:=Hq hall;clear hall;by_cases hlt:k < s.size
  .open an1 in exact acK
  .open aqk in exact adv
theorem Ip (n:Int) (w:World) (h1:97<=n) (h2:n<=122):Calls Tryz.prog 176 #[.int .u8 n] w λe w'=>e= .returned (.bool true)/\w=w':=by
 exact Xl
theorem NY (n:Int) (w:World) (h:n < 97\/122 < n):Calls Tryz.prog 176 #[.int .u8 n] w λe w'=>e= .returned (.bool false)/\w=w':=by
 by_cases h1:97<=n
 .have h2:¬n<=122:=Aaa
  clear h;exact Xl
 .clear h;exact Xl
theorem GK (n:Int) (w:World) (h1:48<=n) (h2:n<=57):Calls Tryz.prog 177 #[.int .u8 n] w λe w'=>e= .returned (.bool true)/\w=w':=by
 exact Xm
theorem LV (n:Int) (w:World) (h:n < 48\/57 < n):Calls Tryz.prog 177 #[.int .u8 n] w λe w'=>e= .returned (.bool false)/\w=w':=by
 by_cases h1:48<=n
 .have h2:¬n<=57:=Aaa
  clear h;exact Xm
 .clear h;exact Xm
theorem GZ (s:ByteArray) (w:World):
 Calls Tryz.prog 131 #[.string s] w λe w'=>e= .returned (.bool (Mth.keyOk s.data.toList))/\w=w':=by
 by_cases hlen:(1:Int)<=(s.size:Int)/\(s.size:Int)<=10
 .obtain⟨hs1,hs2⟩:=hlen;have hne:s.toList.isEmpty=false:=jS s Aaa;have h10:decide (10 < (s.size:Int))=false:=Aag
  go_enter Tryz.func131,Tryz.ntmps131
  go_wp2
  go_loop [13] (λi=>∃k:Nat,k<=s.size/\i= .int .i64 k/\(s.data.toList.take k).all Mth.keyByte=true) (λi=>s.size - (intOf i).toNat)
  case atStart=>exact⟨0,Nat.zero_le _,rfl,rfl⟩
  case round=>
   obtain⟨k,hk,rfl,hall⟩:=hrel;have HA:=Hq hall;clear hall;by_cases hlt:k < s.size
   .open an2 in exact acK
   .open aql in exact adv
 .have HF:Hid (Mth.keyOk s.data.toList=false):=Mth.keyOk_len _ (by rw [bn];omega);by_cases h0:s.size=0
  .have he:s=ByteArray.empty:=eq_empty s h0;subst he;exact aen
  .have hne:s.toList.isEmpty=false:=jS s Aaa;have h10:10 < (s.size:Int):=Aaa
   exact aen
def vR (x a b:Int):Prop:=a<=x/\x<=b
instance (x a b:Int):Decidable (vR x a b):=by unfold vR;infer_instance
theorem Qj (x a b:Int) (w:World):Calls Tryz.prog 63 #[.int .i64 x,.int .i64 a,.int .i64 b] w λe w'=>e= .returned (.bool (decide (vR x a b)))/\w=w':=by
 by_cases h:vR x a b
 .rw [decide_eq_true h];exact oh x a b w h.1 h.2
 .rw [decide_eq_false h];exact qM x a b w (by unfold vR at h;omega)
theorem l01Amount (n:Int) (w:World):Calls Tryz.prog 62 #[.int .i64 n] w λe w'=>e= .returned (.bool (decide (vR n 0 1000000000)))/\w=w':=by
 go_enter Tryz.func62,Tryz.ntmps62
 go_wp2_with (go_at_call 63;refine(Qj _ _ _ _).mono ?_;rintro e w1 ⟨rfl,rfl⟩)
 go_ret;exact⟨rfl,rfl⟩
open Go.RowKit Go.Extern.Stop Go.Stop Go.Extern
structure iG (w:World) (E:Nat->Addr):Prop where
 var:∀i,i < 5->w.cell? ⟨i,0,none⟩=some (.iface 338 (.pointer (some (E i))))
 row:∀i,i < 5->∃c t,w.heap[(E i).block]?=some (.cells c t (0,0))
 ne:∀i j,i < 5->j < 5->i≠j->E i≠E j
theorem iG.below {w w':World} {E:Nat->Addr} (h:iG w E) (hb:aX w w'):iG w' E:=by
 refine⟨λi hi=>?_,λi hi=>?_,h.ne⟩
 .rw [hb.cell (p:=⟨i,0,none⟩) (World.block_lt_of_cell? _ _ (h.var i hi))];exact h.var i hi
 .obtain⟨c,t,hc⟩:=h.row i hi;refine⟨c,t,?_⟩;rw [hb.block _ ?_]
  .exact hc
  .rcases Nat.lt_or_ge (E i).block w.heap.size with h'|h'
   .exact h'
   .rw [Array.getElem?_eq_none h'] at hc;cases hc
abbrev tV (a:Addr):Value:= .iface 338 (.pointer (some a))
namespace Is
theorem typeOf (v:Value) (w:World):(Extern.ReflectliteType.typeOf #[.iface 338 v]).run Tryz.prog w= .ok (.iface 317 (.agg #[.pointer (some ⟨6,338,none⟩)])) w:=Aab
def cmp:Array Value->Sem Value:=Extern.ReflectliteType.method λt=>do Extern.Rtype.noPackHeld "Comparable" t;pure (.bool (<-typeInfo t).comparable)
theorem comparable (w:World):(cmp #[.agg #[.pointer (some ⟨6,338,none⟩)]]).run Tryz.prog w= .ok (.bool true) w:=Aab
theorem methodComparable (v:Value) (w:World):(Go.method 467 317 v "Comparable").run Tryz.prog w= .ok (309,v) w:=Aab
theorem comp:(Tryz.prog.info? 338).map (·.comparable)=some true:=Aab
theorem size:(Tryz.prog.info? 356).map (·.size)=some 1:=Aab
theorem noIs (v:Value) (xT:TypeId) (w:World):(Instr.typeAssert (.iface 338 v) xT 332 true).run Tryz.prog w= .ok (.tuple #[.nilIface,.bool false]) w:=run_typeAssert_lacksB Tryz.underlying332 Aab Aab v xT w
theorem noUnwrap (v:Value) (xT:TypeId) (w:World):(Instr.typeAssert (.iface 338 v) xT 324 true).run Tryz.prog w= .ok (.tuple #[.nilIface,.bool false]) w:=run_typeAssert_lacksB Tryz.underlying324 Aab Aab v xT w
theorem noUnwraps (v:Value) (xT:TypeId) (w:World):(Instr.typeAssert (.iface 338 v) xT 326 true).run Tryz.prog w= .ok (.tuple #[.nilIface,.bool false]) w:=run_typeAssert_lacksB Tryz.underlying326 Aab Aab v xT w
end Is
theorem abe (a:Addr) (w:World):Calls Tryz.prog 250 #[tV a,tV a] w λe w'=>e= .returned (.bool true)/\w=w':=by
 open alr in exact ar1
theorem agm (b:Addr) (w:World):Calls Tryz.prog 250 #[.nilIface,tV b] w λe w'=>e= .returned (.bool false)/\w=w':=by
 have hn:=run_eql_iface_nil_left (P:=Tryz.prog) w 338 (.pointer (some b)) Tryz.underlying248;go_enter Tryz.func250,Tryz.ntmps250
 go_wp2
 go_ret;exact⟨rfl,rfl⟩
theorem YK (a b:Addr) (ca cb:Array Value) (ta tb:TypeId) (w:World) (hne:a≠b) (ha:w.heap[a.block]?=some (.cells ca ta (0,0))) (hb:w.heap[b.block]?=some (.cells cb tb (0,0))):
 Calls Tryz.prog 250 #[tV a,tV b] w λe w'=>e= .returned (.bool false)/\w=w':=by
 open alq in exact ar1
theorem aeN {w:World} {E:Nat->Addr} (h:iG w E) (i j:Nat) (b:Bool) (hi:i < 5) (hj:j < 5) (hb:(i == j)=b):Calls Tryz.prog 250 #[tV (E i),tV (E j)] w λe w'=>e= .returned (.bool b)/\w=w':=by
 cases b with
 |true=>
  have e:i=j:=by simpa using hb
  subst e
  exact abe (E i) w
 |false=>
  obtain⟨c1,t1,h1⟩:=h.row i hi
  obtain⟨c2,t2,h2⟩:=h.row j hj
  exact YK (E i) (E j) c1 c2 t1 t2 w (h.ne i j hi hj (by simpa using hb)) h1 h2
theorem Fu {w:World} {E:Nat->Addr} (h:iG w E):Calls Tryz.prog 226 #[.nilIface] w λe w'=>e= .returned (.bool false)/\w=w':=by
 have v0:=h.var 0 Aaa;have v1:=h.var 1 Aaa;have v2:=h.var 2 Aaa;have v3:=h.var 3 Aaa;have v4:=h.var 4 Aaa;have HE:=Hq h;clear h;go_enter Tryz.func226,Tryz.ntmps226
 go_wp2_with (go_at_call 250;refine(agm _ _).mono ?_;rintro e w1 ⟨rfl,rfl⟩)
 go_ret;exact⟨rfl,rfl⟩
theorem JA {w:World} {E:Nat->Addr} (h:iG w E) (i:Nat) (hi:i < 5):Calls Tryz.prog 226 #[tV (E i)] w λe w'=>e= .returned (.bool true)/\w=w':=by
 have v0:=h.var 0 Aaa;have v1:=h.var 1 Aaa;have v2:=h.var 2 Aaa;have v3:=h.var 3 Aaa;have v4:=h.var 4 Aaa;have HE:=Hq h;clear h;match i,hi with
 |0,_|1,_|2,_|3,_|4,_=>
  go_enter Tryz.func226,Tryz.ntmps226
  go_wp2_with (go_at_call 250;first|(refine(aeN HE _ _ true Aaa Aaa Aae).mono ?_;rintro e w1 ⟨rfl,rfl⟩)|(refine(aeN HE _ _ false Aaa Aaa Aae).mono ?_;rintro e w1 ⟨rfl,rfl⟩))
  go_ret
  exact⟨rfl,rfl⟩
open Mth
theorem fV {P:Program} (w:World) (base:Nat) (t ty e:TypeId) (i:TypeInfo) (z:Value) (size bytes:Nat) (ht:P.underlying t=some (.slice e)) (hi:P.info? e=some i) (hz:i.zero=some z)
 (hsize:i.size=size) (hby:i.bytes=bytes) (hzs:z.cells.size=size) (hsz:0 < size)
 (v:Value) (n:Nat) (xs:List Value) (hown:w.ownsRow base e size v n xs)
 (a:Addr) (m c:Nat) (news:List Value) (hl:news.length=m*size) (hnews:∀j u,news[j]?=some u->w.cell? (a.add j)=some u) (h1:∀u∈news,u.oneCell'=true)
 (h63:n+m<=maxLen) (hbytes:(n+m)*bytes<=140737488355328) (hbase:base<=w.heap.size):
 ∃v' w',(Builtin.append_ #[t,t] ty #[v,.slice (some a) m c]).run P w= .ok v' w'/\w'.ownsRow base e size v' (n+m) (xs++news)/\w.grownBy w' v.ownBlock/\
  ∀x,v'.ownBlock=some x->v.ownBlock=some x\/w.heap.size<=x:=by
 obtain⟨v',w',hr,ho,hg,_⟩:=run_append_own w base t ty e i z size bytes ht hi hz hsize hby hzs hsz v n xs hown a m c news hl hnews h1 h63 hbytes hbase;refine⟨v',w',hr,ho,hg,λx hx=>?_⟩;have hsmall:n+m<=9223372036854775807:=by simp only[maxLen] at h63;omega
 rcases hown.2 with⟨rfl,rfl⟩|⟨g,cap,cur,rfl,hbg,hgg,hnc,hcm,hcs,htake⟩
 .have hxs:xs=[]:=List.eq_nil_of_length_eq_zero (by simpa using hown.1);subst hxs;obtain⟨v2,w2,hr2,ho2,_,_⟩:=run_append_own w w.heap.size t ty e i z size bytes ht hi hz hsize hby hzs hsz (.slice none 0 0) 0 [] (World.ownsRow_nil w _ e size) a m c news hl hnews h1 h63 hbytes (Nat.le_refl _);have he:=hr.symm.trans hr2;simp only[Result.ok.injEq] at he;obtain⟨rfl,rfl⟩:=he;exact .inr (ho2.lt x hx).1
 .subst hsize;subst hby;by_cases hroom:n+m<=cap
  .have hfit:n*i.size+news.length<=cur.size:=by rw [hl,hcs,<-Nat.add_mul];exact Nat.mul_le_mul_right _ hroom
   have hr2:=run_append_room (P:=P) w t ty e i ht hi g n cap cur hgg a m c news hl hnews h1 hroom hfit;have he:=hr.symm.trans hr2;simp only[Result.ok.injEq] at he;obtain⟨rfl,_⟩:=he;exact .inl hx
  .have holds:∀j u,xs[j]?=some u->w.cell? ((⟨g,0,none⟩:Addr).add j)=some u:=hown.cells (g:=g) rfl;have hr2:=run_append_grow (P:=P) w t ty e i z ht hi hz ⟨g,0,none⟩ n cap xs hown.1 holds a m c news hl hnews Aaa Aaa (growslice_fits Aaa hbytes);have he:=hr.symm.trans hr2;simp only[Result.ok.injEq] at he;obtain⟨rfl,_⟩:=he;have:w.heap.size=x:=Abo
   exact .inr Aaa
theorem nM {P:Program} (w:World) {o:Oper} {a:Act} {K:Act->World->Prop} {Q:Exit->Act->World->Prop} (s x:Operand) (t:TypeId)
 (ho:o.op= .call {callee:= .builtin .append,args:=#[s,x],argTypes:=#[t,t]})
 (base:Nat) (e:TypeId) (i:TypeInfo) (z:Value) (size bytes:Nat) (ht:P.underlying t=some (.slice e)) (hi:P.info? e=some i) (hz:i.zero=some z)
 (hsize:i.size=size) (hby:i.bytes=bytes) (hzs:z.cells.size=size) (hsz:0 < size)
 (v:Value) (n:Nat) (xs:List Value) (hs:a.eval s=v) (hown:w.ownsRow base e size v n xs)
 (ad:Addr) (m c:Nat) (news:List Value) (hx:a.eval x= .slice (some ad) m c) (hl:news.length=m*size) (hnews:∀j u,news[j]?=some u->w.cell? (ad.add j)=some u) (h1:∀u∈news,u.oneCell'=true)
 (h63:n+m<=maxLen) (hbytes:(n+m)*bytes<=140737488355328) (hbase:base<=w.heap.size)
 (h:∀v' w',w'.ownsRow base e size v' (n+m) (xs++news)->w.grownBy w' v.ownBlock->(∀x,v'.ownBlock=some x->v.ownBlock=some x\/w.heap.size<=x)->K (a.put o.dst v') w'):o.wp P a w K Q:=by
 obtain⟨v',w',hr,h2,h3,h4⟩:=fV w base t o.type e i z size bytes ht hi hz hsize hby hzs hsz v n xs hown ad m c news hl hnews h1 h63 hbytes hbase;exact Lib.wp_append_run w s x t t ho _ _ hs hx v' w' hr (h v' w' h2 h3 h4)
theorem PD (w:World):CallsD Tryz.prog 143 #[] .returning w λe u' w'=>e= .returned (.tuple #[])/\u'= .returning/\w=w':=by
 refine callsD_of_wpS Tryz.func143 rfl λc₀ cs hu=>?_
 apply wpS_seq
 apply wpS_region
 simp[wpOpsS,go_sem,recoverD,hu,Tryz.ntmps143,Exit.thenS];refine wpS_of_wp ?_;show Code.wp _ _ _ {tmps:=#[.nilIface,undef,undef,.nilIface,undef,undef,undef,undef,undef,undef,undef,undef,undef,undef],defers:=[]} _
 have hnil:∀W:World,(binOp BinOp.eql 20 .nilIface .nilIface).run Tryz.prog W= .ok (.bool true) W:=λ_=>by kernel_rfl
 go_wp2_with fail;cases c₀
 simp_all [bodyPostS,results,Tryz.results143]
theorem Tv (p:Int) (older:List PanicEntry) (w:World):CallsD Tryz.prog 143 #[] (.panicking ({v:= .iface 171 (.agg #[.int .i64 p]),recovered:=false}::older)) w λe u' w'=>e= .returned (.tuple #[])/\u'= .panicking ({v:= .iface 171 (.agg #[.int .i64 p]),recovered:=true}::older)/\aX w w':=by
 refine callsD_of_wpS Tryz.func143 rfl λc₀ cs hu=>?_
 apply wpS_seq
 apply wpS_region
 simp[wpOpsS,go_sem,recoverD,hu,Tryz.ntmps143,Exit.thenS];refine wpS_of_wp ?_;show Code.wp _ _ _ {tmps:=#[.iface 171 (.agg #[.int .i64 p]),undef,undef,.iface 171 (.agg #[.int .i64 p]),undef,undef,undef,undef,undef,undef,undef,undef,undef,undef],defers:=[]} _
 have hnil:∀W:World,(binOp BinOp.eql 20 (.iface 171 (.agg #[.int .i64 p])) .nilIface).run Tryz.prog W= .ok (.bool false) W:=λ_=>by kernel_rfl
 have has:∀W:World,(Instr.typeAssert (.iface 171 (.agg #[.int .i64 p])) 20 171 true).run Tryz.prog W= .ok (.tuple #[.agg #[.int .i64 p],.bool true]) W:=λ_=>by kernel_rfl
 go_wp2_with fail;have hb:Below w.heap.size w (w.alloc (.cells #[.int .i64 p] 171)):=(Below.refl _ _).alloc (Nat.le_refl _) _;cases c₀
 simp_all [bodyPostS,results,Tryz.results143]
theorem Jo (s:ByteArray) (w:World) (hs:s.size<=maxLen):
 Calls Tryz.prog 218 #[.string s] w λe w'=>e= .returned (.int .u32 (65536*(Mth.sums s.data.toList).2+(Mth.sums s.data.toList).1))/\w=w':=by
 unfold maxLen at hs;go_enter Tryz.func218,Tryz.ntmps218
 go_wp2
 go_loop [3,4,8] (λa b i=>∃k:Nat,k<=s.size/\i= .int .i64 k/\a= .int .u32 (Mth.sums (s.data.toList.take k)).1/\b= .int .u32 (Mth.sums (s.data.toList.take k)).2) (λ_ _ i=>s.size - (intOf i).toNat)
 case atStart=>exact⟨0,Nat.zero_le _,rfl,rfl,rfl⟩
 case round=>
  exact asA
theorem JV (s:ByteArray) (w:World) (hs:s.size<=maxLen):
 Calls Tryz.prog 142 #[.string s] w λe w'=>e= .returned (.int .u32 (65536*(Mth.sums s.data.toList).2+(Mth.sums s.data.toList).1))/\w=w':=by
 unfold maxLen at hs;go_enter Tryz.func142,Tryz.ntmps142
 go_wp2
 go_loop [3,4,5] (λa b i=>∃k:Nat,k<=s.size/\i= .int .i64 k/\a= .int .i64 (Mth.sums (s.data.toList.take k)).1/\b= .int .i64 (Mth.sums (s.data.toList.take k)).2) (λ_ _ i=>s.size - (intOf i).toNat)
 case atStart=>exact⟨0,Nat.zero_le _,rfl,rfl,rfl⟩
 case round=>
  exact asA
end Go.Proofs.YtacgbldlonoaaaaGreatDoor
