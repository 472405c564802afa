/- Parts. -/
import Derived.Test.YtacgbldlonoaaaaGreatDoorRa7
import Derived.Test.YtacgbldlonoaaaaGreatDoorRa13
namespace Go.Proofs.YtacgbldlonoaaaaGreatDoor
open Go.RowKit
open Mth
def ow (I:Nat→Nat) (k gi:Nat):Nat→Nat:=fun i=>if i=k then gi else I i
theorem eO.store {w:World} {a:Option Addr} {g:Nat} {I:Nat→Nat} {l:List Sn} (h:eO w a g I l) (k:Nat) (hk:k < l.length) (s:Sn) (b:Option Addr) (cc gi:Nat) (hi:GR.W aR 1 w b gi s.ids) (hg4:∀x∈nM I l,x≠g) (hgi:∀x∈fp gi s.ids,x≠g):
 eO (GR.setW w g (k*3) [.int .i64 s.f,.int .i64 s.l,.slice b s.ids.length cc]) a g (ow I k gi) (l.set k s):=by
 obtain⟨T,hT,hl,hr⟩:=h;have Jw:k < T.length:=by omega
 have hkp:=aL (g:=g) [.int .i64 s.f,.int .i64 s.l,.slice b s.ids.length cc] w (k*3);refine⟨T.set k ⟨s.f,s.l,.slice b s.ids.length cc⟩,GR.W.set bC hT k ⟨s.f,s.l,.slice b s.ids.length cc⟩ Jw,by simpa using hl,fun i hi'=>?_⟩;exact amV
theorem KC.setW {c:Nat→Nat} {k g o:Nat} {w:World} (vs:List Value) (hc:c g=k):KC c k w (GR.setW w g o vs):=KC.keeps (aL vs w o) (fun x hx=>by have:x=g:=(by simpa using hx);rw [this];exact hc)
theorem GI (z:Int):∀(l:List Rq) (i:Nat) (hi:i < l.length),(GR.flat aK l).set (i*4+3) (.int .i64 z)=GR.flat aK (l.set i ⟨l[i].no,l[i].k,l[i].n,z⟩):=by
 intro l;induction l with
 |nil=>intro i hi;simp at hi
 |cons x r ih=>
  intro i hi
  cases i with
  |zero=>rfl
  |succ i=>
   have hi2:i < r.length:=by simpa using hi
   have h1:=ih i hi2
   show(aK x++GR.flat aK r).set ((i+1)*4+3) (.int .i64 z)=aK x++GR.flat aK (r.set i ⟨r[i].no,r[i].k,r[i].n,z⟩)
   rw [←h1,List.set_append_right _ _ (by show 4≤_;omega)]
   congr 2
   show(i+1)*4+3 - 4=_
   omega
theorem oU (s:jm):∀u∈aS s,u.oneCell'=true:=by
 intro u hu;simp only[aS,List.mem_cons,List.not_mem_nil,or_false] at hu;rcases hu with rfl|rfl|rfl|rfl<;>rfl
theorem wU (k:ByteArray) (m f s:Int) (w:World):(Instr.field 143 (.agg #[.string k,.int .i64 m,.int .i64 f,.int .i64 s]) 2).run Tryz.prog w= .ok (.int .i64 f) w:=by kernel_rfl
theorem Eu:(Tryz.prog.info? 95).map (fun i=>(i.zero,i.size,i.bytes))=some (some (.agg #[.int .i64 0,.int .i64 0,.string ByteArray.empty,.int .i64 0]),4,40):=by kernel_rfl
theorem Rf {w:World} {g h i:Nat} {u b0 b1 b2 b3 b4 b5 b6 b7 b8:Value} (hne:g≠h) (e:w.cell? ⟨h,i,none⟩=some u):
 (((((((((w.setCell ⟨g,0,none⟩ b0).setCell ⟨g,1,none⟩ b1).setCell ⟨g,2,none⟩ b2).setCell ⟨g,3,none⟩ b3).setCell ⟨g,4,none⟩ b4).setCell ⟨g,5,none⟩ b5).setCell ⟨g,6,none⟩ b6).setCell ⟨g,7,none⟩ b7).setCell ⟨g,8,none⟩ b8).cell? ⟨h,i,none⟩=some u:=by
 rw [World.cell?_setCell_far _ _ _ _ hne,World.cell?_setCell_far _ _ _ _ hne,World.cell?_setCell_far _ _ _ _ hne,World.cell?_setCell_far _ _ _ _ hne,World.cell?_setCell_far _ _ _ _ hne,World.cell?_setCell_far _ _ _ _ hne,World.cell?_setCell_far _ _ _ _ hne,World.cell?_setCell_far _ _ _ _ hne,World.cell?_setCell_far _ _ _ _ hne];exact e
theorem CU {l:List Pu} {key:ByteArray} {dm df ds n:Int} (h:(bV l key dm df ds n).2=false):(bV l key dm df ds n).1=l:=by
 exact ZO
theorem AA {n:Nd} {m:Mg} {i:Nat} {s0:Sn} (hi:i < n.seen.length) (e:gF n.seen m.F=i) (hs:n.seen[i]=s0) (h:nU s0 m.L m.I=false) (hg:jN n s0 m=true):takeN n m=(bY (setPu n (bV n.pu m.k 0 1 0 m.N).1) (n.seen.set i ⟨m.F,dU s0 m.L,jG (aW s0 m.L) m.I⟩),true):=by
 subst e hs;unfold takeN;rw [yQ hi,if_neg (by rw [h];simp),if_pos hg]
theorem Du {n:Nd} {m:Mg} {i:Nat} {s0:Sn} (hi:i < n.seen.length) (e:gF n.seen m.F=i) (hs:n.seen[i]=s0) (h:nU s0 m.L m.I=true):takeN n m=(bY n (n.seen.set i ⟨m.F,dU s0 m.L,aW s0 m.L⟩),true):=by
 subst e hs;unfold takeN;rw [yQ hi,if_pos h]
theorem Jf {n:Nd} {m:Mg} {i:Nat} {s0:Sn} (hi:i < n.seen.length) (e:gF n.seen m.F=i) (hs:n.seen[i]=s0) (h:nU s0 m.L m.I=false) (hg:jN n s0 m=false):takeN n m=(bY n (n.seen.set i ⟨m.F,dU s0 m.L,aW s0 m.L⟩),false):=by
 subst e hs;unfold takeN;rw [yQ hi,if_neg (by rw [h];simp),if_neg (by rw [hg];simp)]
theorem WK.setPu {w0 w w':World} {wb:Nat} {n:Nd} {A:bE} {G:aU} {c:Nat→Nat} {v:Value} {L:List Mg} {a:Option Addr} {cp g:Nat} {l:List Pu} (h:WK w0 w wb n A G c v L) (hb:Below w.heap.size w w') (hw:GR.W eG 4 w' a g l) (hg:∀x∈fp g l,w.heap.size≤x):
 WK w0 (w'.setCell ⟨wb,4,none⟩ (.slice a l.length cp)) wb (setPu n l) ⟨A.k,a,A.o,A.s,A.r,A.ck,cp,A.co,A.cs,A.cr⟩ ⟨G.k,g,G.o,G.s,G.r,G.i⟩ (newC w.heap.size 2 c) v L:=by
 have hwb:=aA h.blk;have h1:=(h.recol (c':=newC w.heap.size 2 c) (fun x hx=>dH hx)).step hb;have hk:KC (newC w.heap.size 2 c) 8 w' (w'.setCell ⟨wb,4,none⟩ (.slice a l.length cp)):=KC.set h1.cw;have h2:=h1.no.kc hk (by omega);have hcp:∀x∈fp g l,newC w.heap.size 2 c x=2:=fun x hx=>aT (hg x hx)
 refine⟨hk.below h1.keep h1.no.lo (by omega) h1.keep.size,?_,⟨h2.k,hk.w hw hcp (show(2:Nat)≠8 by omega),h2.o,h2.s,h2.r,h2.lo,h2.ck,hcp,h2.co,h2.c4,h2.ci,h2.cr,h2.ni⟩,hk.own h1.m h1.cm (by omega),h1.cm,h1.cw⟩;exact bg h1.blk 4 (.slice a l.length cp)
set_option maxRecDepth 100000
open Go.RowKit Go.Extern.Stop Go.Stop Go.Extern
structure gW (w:World) (E:Nat→Addr):Prop where
 var:∀i,i < 5→w.cell? ⟨i,0,none⟩=some (.iface 338 (.pointer (some (E i))))
 row:∀i,i < 5→∃c t,w.heap[(E i).block]?=some (.cells c t (0,0))
 ne:∀i j,i < 5→j < 5→i≠j→E i≠E j
theorem gW.below {w w':World} {E:Nat→Addr} (h:gW w E) (hb:Below w.heap.size w w'):gW w' E:=by
 refine⟨fun i hi=>?_,fun i hi=>?_,h.ne⟩
 ·rw [hb.cell (p:=⟨i,0,none⟩) (World.block_lt_of_cell? _ _ (h.var i hi))];exact h.var i hi
 ·obtain⟨c,t,hc⟩:=h.row i hi;refine⟨c,t,?_⟩;rw [hb.block _ ?_]
  ·exact hc
  ·rcases Nat.lt_or_ge (E i).block w.heap.size with h'|h'
   ·exact h'
   ·rw [Array.getElem?_eq_none h'] at hc;cases hc
abbrev qx (a:Addr):Value:= .iface 338 (.pointer (some a))
namespace Is
theorem typeOf (v:Value) (w:World):(Extern.ReflectliteType.typeOf #[.iface 338 v]).run Tryz.prog w= .ok (.iface 317 (.agg #[.pointer (some ⟨6,338,none⟩)])) w:=by kernel_rfl
def cmp:Array Value→Sem Value:=Extern.ReflectliteType.method fun t=>do Extern.Rtype.noPackHeld "Comparable" t;pure (.bool (←typeInfo t).comparable)
theorem comparable (w:World):(cmp #[.agg #[.pointer (some ⟨6,338,none⟩)]]).run Tryz.prog w= .ok (.bool true) w:=by kernel_rfl
theorem methodComparable (v:Value) (w:World):(Go.method 467 317 v "Comparable").run Tryz.prog w= .ok (309,v) w:=by kernel_rfl
theorem comp:(Tryz.prog.info? 338).map (·.comparable)=some true:=by kernel_rfl
theorem size:(Tryz.prog.info? 356).map (·.size)=some 1:=by kernel_rfl
theorem noIs (v:Value) (xT:TypeId) (w:World):(Instr.typeAssert (.iface 338 v) xT 332 true).run Tryz.prog w= .ok (.tuple #[.nilIface,.bool false]) w:=run_typeAssert_lacksB Tryz.underlying332 (by kernel_rfl) (by kernel_rfl) v xT w
theorem noUnwrap (v:Value) (xT:TypeId) (w:World):(Instr.typeAssert (.iface 338 v) xT 324 true).run Tryz.prog w= .ok (.tuple #[.nilIface,.bool false]) w:=run_typeAssert_lacksB Tryz.underlying324 (by kernel_rfl) (by kernel_rfl) v xT w
theorem noUnwraps (v:Value) (xT:TypeId) (w:World):(Instr.typeAssert (.iface 338 v) xT 326 true).run Tryz.prog w= .ok (.tuple #[.nilIface,.bool false]) w:=run_typeAssert_lacksB Tryz.underlying326 (by kernel_rfl) (by kernel_rfl) v xT w
end Is
theorem VJ (a:Addr) (w:World):Calls Tryz.prog 250 #[qx a,qx a] w fun e w'=>e= .returned (.bool true)∧w=w':=by
 open ag1 in exact amz
theorem abH (b:Addr) (w:World):Calls Tryz.prog 250 #[.nilIface,qx b] w fun e w'=>e= .returned (.bool false)∧w=w':=by
 have hn:=run_eql_iface_nil_left (P:=Tryz.prog) w 338 (.pointer (some b)) Tryz.underlying248;go_enter Tryz.func250,Tryz.ntmps250
 go_wp2
 go_ret;exact⟨rfl,rfl⟩
theorem Sl (a b:Addr) (ca cb:Array Value) (ta tb:TypeId) (w:World) (hne:a≠b) (ha:w.heap[a.block]?=some (.cells ca ta (0,0))) (hb:w.heap[b.block]?=some (.cells cb tb (0,0))):
 Calls Tryz.prog 250 #[qx a,qx b] w fun e w'=>e= .returned (.bool false)∧w=w':=by
 open ag0 in exact amz
theorem aac {w:World} {E:Nat→Addr} (h:gW w E) (i j:Nat) (b:Bool) (hi:i < 5) (hj:j < 5) (hb:(i == j)=b):Calls Tryz.prog 250 #[qx (E i),qx (E j)] w fun e w'=>e= .returned (.bool b)∧w=w':=by
 cases b with
 |true=>
  have e:i=j:=by simpa using hb
  subst e
  exact VJ (E i) w
 |false=>
  obtain⟨c1,t1,h1⟩:=h.row i hi
  obtain⟨c2,t2,h2⟩:=h.row j hj
  exact Sl (E i) (E j) c1 c2 t1 t2 w (h.ne i j hi hj (by simpa using hb)) h1 h2
set_option maxHeartbeats 2000000
open Go.RowKit Go.Maps
theorem Ho (p:Pu) (w:World):Calls Tryz.prog 269 #[wI p] w fun e w'=>e= .returned (.bool (nothing p))∧Below w.heap.size w w':=by
 obtain⟨pk,pm,pf,ps⟩:=p;go_enter Tryz.func269,Tryz.ntmps269
 go_wp2
 all_goals
  go_ret
  exact⟨by simp[nothing, *],bZ w _⟩
theorem jT {w:World} {g:Nat} {a0 a1:Value} {t:TypeId} (h:w.heap[g]?=some (.cells #[a0,a1] t (0,0))):
 (w.cell? ⟨g,0,none⟩=some a0∧w.cell? ⟨g,1,none⟩=some a1)∧(w.frozen? ⟨g,0,none⟩=false∧w.frozen? ⟨g,1,none⟩=false):=by
 have hc:∀i,w.cell? ⟨g,i,none⟩=#[a0,a1][i]?:=fun i=>cell_of_row w g i _ t (0,0) h
 have hf:∀i,w.frozen? ⟨g,i,none⟩=false:=fun i=>by unfold World.frozen?;rw [h];simp
 exact⟨⟨hc 0,hc 1⟩,hf 0,hf 1⟩
theorem gH.mono {w:World} {mb n n':Nat} {G:ByteArray→Pu} (h:gH w mb n G) (hn:n≤n'):gH w mb n' G:=by
 obtain⟨D,h1,h2⟩:=h;exact⟨D,h1.mono hn,h2⟩
theorem Mh (mp mb n:Nat) (v:Value) (G:ByteArray→Pu) (p:Pu) (w:World) (hk:p.k.size≤1048576) (hn:n < maxLen) (hm:w.heap[mp]?=some (.cells #[v,.map (some mb)] 306 (0,0))) (hM:gH w mb n G):
 Calls Tryz.prog 259 #[.pointer (some ⟨mp,0,none⟩),wI p] w fun e w'=>e= .returned (.tuple #[])∧gH w' mb (n+1) (upd G p)∧Keeps mb w w':=by
 have HN:=hide (fun w1=>Ho p w1);have HM:=hide hm;have HI:=hide hM;have hkm:p.k.size≤maxLen:=by unfold maxLen;omega
 have hmp:=Fo.lt_of_blk hm;have hmb:=hM.lt;cases hno:nothing p
 ·obtain⟨pk,pm,pf,ps⟩:=p;have HST:=hide (fun w1 h=>gH.store (w:=w1) (mb:=mb) (n:=n) (G:=G) h ⟨pk,pm,pf,ps⟩ hkm hn hno);open ag3 in exact amA
 ·obtain⟨pk,pm,pf,ps⟩:=p;have HST:=hide (fun w1 ty h=>gH.drop (w:=w1) (mb:=mb) (n:=n) (G:=G) h ⟨pk,pm,pf,ps⟩ hkm hno ty);open ag2 in exact amA
theorem Eo (mp mb n:Nat) (v:Value) (G:ByteArray→Pu) (k:ByteArray) (w:World) (hk:k.size≤1048576) (hm:w.heap[mp]?=some (.cells #[v,.map (some mb)] 306 (0,0))) (hM:gH w mb n G):
 Calls Tryz.prog 260 #[.pointer (some ⟨mp,0,none⟩),.string k] w fun e w'=>e= .returned (wI (G k))∧Below w.heap.size w w':=by
 have hmp:=Fo.lt_of_blk hm;have hmb:=hM.lt;obtain⟨⟨m0,m1⟩,_⟩:=jT hm;have ZR:=(hM.choose_spec.2 k).1;have hrun:=(gH.kept (w':=w.alloc (.cells #[.string ⟨#[]⟩,.int .i64 0,.int .i64 0,.int .i64 0] 143)) hM (by rw [Below.heap_alloc _ _ _ hmb])).look k (by unfold maxLen;omega);clear hm hM;cases hno:nothing (G k)
 ·rw [hno] at hrun;generalize G k=p at *;obtain⟨pk,pm,pf,ps⟩:=p;dsimp only at ZR;subst ZR;simp only[Bool.not_false,if_neg Bool.false_ne_true] at hrun;go_enter Tryz.func260,Tryz.ntmps260
  go_wp2_with fail;exact bodyPost_ret (v:= .agg #[.string pk,.int .i64 pm,.int .i64 pf,.int .i64 ps]) (by simp[results,Tryz.results260,go_sem]) rfl ⟨rfl,((Below.refl _ _).alloc (Nat.le_refl _) _).alloc (by simp) _⟩
 ·have hG0:G k=⟨k,0,0,0⟩:=by
   obtain⟨h1,h2,h3⟩:=(Iq _).1 hno;generalize G k=p at *;obtain⟨pk,pm,pf,ps⟩:=p;dsimp only at ZR h1 h2 h3;rw [ZR,h1,h2,h3]
  rw [hno] at hrun;rw [hG0];clear hno hG0 ZR;simp only[Bool.not_true,if_pos] at hrun;go_enter Tryz.func260,Tryz.ntmps260
  go_wp2_with fail;exact bodyPost_ret (v:= .agg #[.string k,.int .i64 0,.int .i64 0,.int .i64 0]) (by simp[results,Tryz.results260,go_sem]) rfl ⟨rfl,((Below.refl _ _).alloc (Nat.le_refl _) _).alloc (by simp) _⟩
open Go.Shelf Go.Proofs
def qj:Go.Shelf.Ren:=⟨fun|17=>278|22=>271|29=>274|30=>275|36=>277|26=>270|33=>272|34=>273|38=>276|n=>n,fun|0=>0|3=>3|4=>4|9=>9|24=>50|40=>203|n=>n,fun n=>n⟩
theorem pJ:Lays2.n22 Tryz.prog qj:={
 mixed:=by kernel_rfl
 f17:=Tryz.func278.trans (congrArg some (by kernel_rfl))
 f22:=Tryz.func271.trans (congrArg some (by kernel_rfl))
 f29:=Tryz.func274.trans (congrArg some (by kernel_rfl))
 f30:=Tryz.func275.trans (congrArg some (by kernel_rfl))
 f36:=Tryz.func277.trans (congrArg some (by kernel_rfl))
 t0:=Tryz.underlying0
 a0:=Tryz.isAgg0
 z0:=Tryz.sizeOf0
 v0:=Tryz.zeroValue0
 t3:=Tryz.underlying3
 a3:=Tryz.isAgg3
 z3:=Tryz.sizeOf3
 v3:=Tryz.zeroValue3
 t4:=Tryz.underlying4
 a4:=Tryz.isAgg4
 z4:=Tryz.sizeOf4
 v4:=Tryz.zeroValue4
 t9:=Tryz.underlying9
 a9:=Tryz.isAgg9
 z9:=Tryz.sizeOf9
 v9:=Tryz.zeroValue9
 t24:=Tryz.underlying50
 a24:=Tryz.isAgg50
 z24:=Tryz.sizeOf50
 v24:=Tryz.zeroValue50
 i9:=by kernel_rfl}
theorem zU:Lays2.n26 Tryz.prog qj:={
 mixed:=by kernel_rfl
 f26:=Tryz.func270.trans (congrArg some (by kernel_rfl))
 f33:=Tryz.func272.trans (congrArg some (by kernel_rfl))
 f34:=Tryz.func273.trans (congrArg some (by kernel_rfl))
 f38:=Tryz.func276.trans (congrArg some (by kernel_rfl))
 t0:=Tryz.underlying0
 a0:=Tryz.isAgg0
 z0:=Tryz.sizeOf0
 v0:=Tryz.zeroValue0
 t3:=Tryz.underlying3
 a3:=Tryz.isAgg3
 z3:=Tryz.sizeOf3
 v3:=Tryz.zeroValue3
 t4:=Tryz.underlying4
 a4:=Tryz.isAgg4
 z4:=Tryz.sizeOf4
 v4:=Tryz.zeroValue4
 t9:=Tryz.underlying9
 a9:=Tryz.isAgg9
 z9:=Tryz.sizeOf9
 v9:=Tryz.zeroValue9
 t24:=Tryz.underlying50
 a24:=Tryz.isAgg50
 z24:=Tryz.sizeOf50
 v24:=Tryz.zeroValue50
 t40:=Tryz.underlying203
 a40:=Tryz.isAgg203
 z40:=Tryz.sizeOf203
 v40:=Tryz.zeroValue203}
theorem jQ:∀(vs:List Value) {w:World} {g o:Nat} {xs:List Value} {t:TypeId},w.heap[g]?=some (.cells xs.toArray t (0,0))→(w.setCells g o vs).heap[g]?=some (.cells (GR.setRun xs o vs).toArray t (0,0)):=by
 intro vs;induction vs with
 |nil=>intro w g o xs t h;exact h
 |cons v vs ih=>
  intro w g o xs t h
  refine ih (xs:=xs.set o v) ?_
  have:=Fo.blk_set h o v
  simpa using this
theorem mP {g g':Nat} (hne:g'≠g):∀(vs:List Value) (w:World) (o:Nat),(w.setCells g o vs).heap[g']?=w.heap[g']?:=by
 intro vs;induction vs with
 |nil=>intro w o;rfl
 |cons v vs ih=>intro w o;exact(ih (w.setCell ⟨g,o,none⟩ v) (o+1)).trans (Below.heap_setCell _ _ _ _ hne)
theorem setCells_size {g:Nat}:∀(vs:List Value) (w:World) (o:Nat),(w.setCells g o vs).heap.size=w.heap.size:=by
 intro vs;induction vs with
 |nil=>intro w o;rfl
 |cons v vs ih=>intro w o;exact(ih (w.setCell ⟨g,o,none⟩ v) (o+1)).trans (Fo.setCell_size w _ v)
theorem fJ {g:Nat}:∀(vs:List Value) (w:World) (o:Nat),(w.setCells g o vs).os=w.os∧(w.setCells g o vs).tape=w.tape∧(w.setCells g o vs).output=w.output:=by
 intro vs;induction vs with
 |nil=>intro w o;exact⟨rfl,rfl,rfl⟩
 |cons v vs ih=>intro w o;exact ih (w.setCell ⟨g,o,none⟩ v) (o+1)
theorem mO (w:World) (g o:Nat) (vs:List Value):w.grownBy (w.setCells g o vs) (some g):=
 ⟨(fJ vs w o).1,(fJ vs w o).2.1,(fJ vs w o).2.2,by rw [setCells_size];exact Nat.le_refl _,fun k _ hne=>mP (fun e=>hne (by rw [e])) vs w o⟩
theorem mQ (a m b vs:List Value) (h:vs.length=m.length):GR.setRun (a++(m++b)) a.length vs=a++(vs++b):=by
 have:=GR.setRun_append_right a vs 0 (m++b);rw [Nat.add_zero] at this;rw [this,GR.setRun_head vs m b h]
def rV (ks:List ByteArray) (i:Nat) (key:ByteArray):List Value:=(ks.map Value.string).take i++(.string key::(ks.map Value.string).drop i)
theorem kZ (ks:List ByteArray) (i:Nat) (key:ByteArray) (hi:i≤ks.length):(rV ks i key).length=ks.length+1:=by
 unfold rV;simp;omega
theorem vR (ks:List ByteArray):∀v∈ks.map Value.string,v.oneCell'=true:=by
 intro v hv;obtain⟨k,_,rfl⟩:=List.mem_map.1 hv;rfl
theorem anB (B:Nat) (v:Value) (l:List Pu) (key:ByteArray) (w:World) (hp:l.Pairwise Ez) (hl:l.length≤20) (h:w.ownsRow B 9 1 v l.length ((l.map (·.k)).map Value.string)):
 Calls Tryz.prog 270 #[v,.string key] w fun e w'=>e= .returned (.tuple #[.int .i64 (place l key:Nat),.bool (found l key)])∧∃q,w'=w.drewN q:=by
 by_cases h0:l.length=0
 ·have hl0:l=[]:=List.eq_nil_of_length_eq_zero h0;subst hl0
  have hv:∃a c,v= .slice a 0 c:=by
   rcases h.2 with⟨rfl,_⟩|⟨g,cap,cur,rfl,_⟩
   ·exact⟨none,0,rfl⟩
   ·exact⟨_,_,rfl⟩
  obtain⟨a,c,rfl⟩:=hv;exact(Any2.slices_BinarySearch_string_empty zU a c key w).mono fun e w' ⟨he,hw⟩=>⟨by rw [he];rfl,0,hw⟩
 ·obtain⟨g,cap,rfl,_,_⟩:=h.form (by omega)
  have hb:=Any2.slices_BinarySearch_string zU g 0 l.length cap (qM l key) key w (by omega) (fun j hj=>by
   have hc:=h.cellAt j (by omega)
   rw [Nat.zero_add,hc]
   unfold qM
   simp[hj])
  rw [Q8 hp key,Gs l key] at hb;exact hb
theorem Ev {w:World} {B g cap:Nat} {ks:List ByteArray} {i:Nat} {key:ByteArray} {bs:List Value} (hi:i≤ks.length) (hg:B≤g) (hcap:ks.length+1≤cap) (hcm:cap≤maxLen) (hlen:(rV ks i key++bs).length=cap)
 (h:w.heap[g]?=some (.cells (rV ks i key++bs).toArray 9 (0,0))):w.ownsRow B 9 1 (.slice (some ⟨g,0,none⟩) (ks.length+1) cap) (ks.length+1) (rV ks i key):=by
 have hl:=kZ ks i key hi;refine⟨by omega,.inr ⟨g,cap,_,rfl,hg,h,hcap,hcm,by rw [List.size_toArray];omega,?_⟩⟩;rw [List.toList_toArray,Nat.mul_one,←hl,List.take_left'];rfl
theorem pY (n:Nat):(Builtin.zeroCells (Value.string ⟨#[]⟩).cells n).toList.length=n:=by
 rw [Array.length_toList,size_zeroCells];simp[Value.cells]
theorem wW (w:World) (o:Obj) (row:Option Nat):w.grownBy (w.drew.alloc o) row:=
 ⟨rfl,rfl,rfl,by simp,fun k hk _=>Below.heap_alloc w.drew _ _ hk⟩
theorem Ie (ks:List ByteArray) (key:ByteArray):rV ks ks.length key=ks.map Value.string++[.string key]:=by
 unfold rV;rw [List.take_of_length_le (by simp),List.drop_of_length_le (by simp)]
theorem zN (B:Nat) (base:Option Addr) (c:Nat) (ks:List ByteArray) (key:ByteArray) (vb:Nat) (w:World) (hn:ks.length≤20) (hB:B≤w.heap.size) (hnc:ks.length≤c) (hroom:c < ks.length+1) (hnil:base=none→ks.length=0)
 (hcs:∀a,base=some a→∀(j:Nat) (v:Value),(ks.map Value.string)[j]?=some v→w.cell? (a.add j)=some v)
 (hvs:∀(j:Nat) (u:Value),[Value.string key][j]?=some u→w.cell? ⟨vb,0+j,none⟩=some u) (h1v:∀u∈[Value.string key],u.oneCell'=true) (row:Option Nat):
 Calls Tryz.prog 271 #[.slice base ks.length c,.int .i64 (ks.length:Nat),.slice (some ⟨vb,0,none⟩) 1 1] w fun e w'=>∃v',e= .returned v'∧w'.ownsRow B 9 1 v' (ks.length+1) (rV ks ks.length key)∧w.grownBy w' row:=by
 refine(Any2.slices_Insert_string_end_grow pJ base ks.length c vb 0 1 1 (ks.map Value.string) [.string key] w (by omega) hnc hroom (by omega) (by simp) rfl hnil hcs hvs h1v).mono fun e w' ⟨he,hw⟩=>?_
 have hge:=grownCap_ge w (ks.length+1) c (qj.t 9);have hle:=grownCap_le_maxLen w (ks.length+1) c (qj.t 9) (by unfold maxLen;omega);refine⟨_,he,?_,by rw [hw];exact wW w _ row⟩;generalize grownCap w (ks.length+1) c (qj.t 9)=cap at *;refine Ev (w:=w') (bs:=(Builtin.zeroCells (Value.string ⟨#[]⟩).cells (cap - (ks.length+1))).toList) (Nat.le_refl _) hB hge hle ?_ ?_
 ·rw [List.length_append,pY,kZ _ _ _ (Nat.le_refl _)];omega
 ·rw [hw];have:=heap_alloc_new w.drew (.cells ((ks.map Value.string++[Value.string key]).toArray++Builtin.zeroCells (Value.string ⟨#[]⟩).cells (cap - (ks.length+1))) (qj.t 9));refine Eq.trans this ?_;rw [Ie]
  have e:(ks.map Value.string++[Value.string key]).toArray++Builtin.zeroCells (Value.string ⟨#[]⟩).cells (cap - (ks.length+1))=(ks.map Value.string++[Value.string key]++(Builtin.zeroCells (Value.string ⟨#[]⟩).cells (cap - (ks.length+1))).toList).toArray:=by
   apply Array.toList_inj.1
   simp
  rw [e];rfl
theorem abF (B:Nat) (v:Value) (ks:List ByteArray) (i:Nat) (key:ByteArray) (vb:Nat) (w:World) (hi:i≤ks.length) (hn:ks.length≤20) (hB:B≤w.heap.size) (h:w.ownsRow B 9 1 v ks.length (ks.map Value.string))
 (hv:w.heap[vb]?=some (.cells #[.string key] 9 (0,0))) (hvb:v.ownBlock≠some vb):
 Calls Tryz.prog 271 #[v,.int .i64 (i:Nat),.slice (some ⟨vb,0,none⟩) 1 1] w fun e w'=>∃v',e= .returned v'∧w'.ownsRow B 9 1 v' (ks.length+1) (rV ks i key)∧w.grownBy w' v.ownBlock:=by
 have hvs:∀(j:Nat) (u:Value),[Value.string key][j]?=some u→w.cell? ⟨vb,0+j,none⟩=some u:=fun j u hu=>by
  rw [cell_of_row w vb _ _ 9 (0,0) hv,Nat.zero_add]
  simpa using hu
 have h1v:∀u∈[Value.string key],u.oneCell'=true:=fun u hu=>by rw [List.mem_singleton.1 hu];rfl
 have hfree:∀j,w.frozen? ⟨vb,j,none⟩=false:=fun j=>by unfold World.frozen?;rw [hv];simp
 have hsa:w.shape? vb=some (9,1):=by unfold World.shape?;rw [hv];rfl
 rcases h.2 with⟨rfl,h0⟩|⟨g,cap,cur,rfl,hg,hblk,hnc,hcm,hcs,htk⟩
 ·have hi0:i=ks.length:=by omega
  subst hi0;have:=zN B none 0 ks key vb w hn hB (by omega) (by omega) (fun _=>h0) (fun a ha=>by cases ha) hvs h1v none;rw [h0] at this ⊢;exact this
 have aqX:vb≠g:=fun e=>hvb (by rw [e];rfl)
 obtain⟨sp,hcur⟩:∃sp,cur.toList=ks.map Value.string++sp:=⟨cur.toList.drop ks.length,by
  rw [Nat.mul_one] at htk
  rw [←htk,List.take_append_drop]⟩
 have hblk2:w.heap[g]?=some (.cells (ks.map Value.string++sp).toArray 9 (0,0)):=by rw [hblk,←hcur]
 have RJ:ks.length+sp.length=cap:=by
  have:=congrArg List.length hcur;rw [Array.length_toList,hcs] at this;simp at this;omega
 have hcell:∀j,w.cell? ⟨g,j,none⟩=(ks.map Value.string++sp)[j]?:=fun j=>by
  rw [cell_of_row w g j _ 9 (0,0) hblk2]
  simp
 have hfz:∀j,w.frozen? ⟨g,j,none⟩=false:=fun j=>by unfold World.frozen?;rw [hblk2];simp
 have abo:∀(j:Nat) (u:Value),(ks.map Value.string)[j]?=some u→w.cell? ⟨g,0+j,none⟩=some u:=fun j u hu=>by
  rw [Nat.zero_add,hcell,List.getElem?_append_left (List.getElem?_eq_some_iff.1 hu).1]
  exact hu
 rcases Nat.lt_or_ge i ks.length with hlt|hge
 ·obtain⟨ra,hra⟩:∃ra,ra=(ks.map Value.string).take i:=⟨_,rfl⟩;obtain⟨rb,hrb⟩:∃rb,rb=(ks.map Value.string).drop i:=⟨_,rfl⟩;have hsplit:ks.map Value.string=ra++rb:=by rw [hra,hrb,List.take_append_drop]
  have anX:ra.length=i:=by rw [hra];simp;omega
  have ar0:rb.length=ks.length - i:=by rw [hrb];simp
  have hins:rV ks i key=ra++(.string key::rb):=by unfold rV;rw [←hra,←hrb]
  by_cases hroom:ks.length+1≤cap
  ·have hsb:w.shape? g=some (9,cap):=by unfold World.shape?;rw [hblk2];simp;omega
   refine(Any2.slices_Insert_string_shift pJ g 0 ks.length cap i vb 0 1 1 (ks.map Value.string) [.string key] w hlt (by omega) hroom (by unfold maxLen at hcm;omega) aqX (by simp) rfl abo
    (fun j hj=>by rw [Nat.zero_add,hcell];simp;omega) (fun j _=>hfz _) hvs (vR ks) h1v 9 9 1 cap hsa hsb (by omega) (hfree _) (hfree _)).mono fun e w' ⟨he,hw⟩=>?_
   obtain⟨s0,sp',hsp⟩:∃s0 sp',sp=s0::sp':=by
    exact ZA
   obtain⟨x0,A,hxA,hAl⟩:∃x0 A,rb++[s0]=x0::A∧A.length=rb.length:=by
    cases hb:rb++[s0] with
    |nil=>simp at hb
    |cons x0 A=>
     refine⟨x0,A,rfl,?_⟩
     have:=congrArg List.length hb
     simp at this
     omega
   have hxs:ks.map Value.string++sp=(ra++[x0])++(A++sp'):=by
    rw [hsplit,hsp];have:ra++rb++s0::sp'=ra++((rb++[s0])++sp'):=by simp
    rw [this,hxA];simp
   have e1:GR.setRun (ks.map Value.string++sp) (0+(i+1)) rb=(ra++[x0])++(rb++sp'):=by
    rw [hxs];have:=mQ (ra++[x0]) A sp' rb hAl.symm;rw [show(ra++[x0]).length=0+(i+1) by simp;omega] at this;exact this
   have e2:GR.setRun ((ra++[x0])++(rb++sp')) (0+i) [.string key]=rV ks i key++sp':=by
    have:=mQ ra [x0] (rb++sp') [.string key] rfl;rw [anX] at this;rw [Nat.zero_add,hins];have e:(ra++[x0])++(rb++sp')=ra++([x0]++(rb++sp')):=by simp
    rw [e,this];simp
   refine⟨_,he,Ev (bs:=sp') hi hg hroom hcm ?_ ?_,?_⟩
   ·rw [List.length_append,kZ ks i key hi];rw [hsp] at RJ;simp at RJ;omega
   ·rw [hw,←hrb];have h1:=jQ rb (w:=w.drew) (o:=0+(i+1)) hblk2;rw [e1] at h1;have h2:=jQ [.string key] (o:=0+i) h1;rw [e2] at h2;exact h2
   ·rw [hw];have h1:=mO w.drew g (0+(i+1)) ((ks.map Value.string).drop i);have h2:=mO (w.drew.setCells g (0+(i+1)) ((ks.map Value.string).drop i)) g (0+i) [.string key];exact⟨h2.os.trans h1.os,h2.tape.trans h1.tape,h2.output.trans h1.output,Nat.le_trans h1.size h2.size,fun k hk hne=>(h2.block k (Nat.lt_of_lt_of_le hk h1.size) hne).trans (h1.block k hk hne)⟩
  ·have arn:cap=ks.length:=by omega
   refine(Any2.slices_Insert_string_grow pJ g 0 ks.length cap i vb 0 1 1 (ks.map Value.string) [.string key] w hlt (by omega) hnc (by omega) (by omega) (by simp) rfl abo hvs (vR ks) h1v).mono fun e w' ⟨he,hw⟩=>?_
   have hge:=grownCap_ge w (ks.length+1) cap (qj.t 9);have hle:=grownCap_le_maxLen w (ks.length+1) cap (qj.t 9) (by unfold maxLen;omega);generalize grownCap w (ks.length+1) cap (qj.t 9)=cap' at *;obtain⟨z1,hz1⟩:∃z1,z1=(Builtin.zeroCells (Value.string ⟨#[]⟩).cells (ks.length+1 - i)).toList:=⟨_,rfl⟩;obtain⟨z2,hz2⟩:∃z2,z2=(Builtin.zeroCells (Value.string ⟨#[]⟩).cells (cap' - (ks.length+1))).toList:=⟨_,rfl⟩;have VD:z1.length=ks.length+1 - i:=by rw [hz1,pY]
   have yC:z2.length=cap' - (ks.length+1):=by rw [hz2,pY]
   obtain⟨x0,A,hxA⟩:∃x0 A,z1=x0::A:=by
    cases z1 with
    |nil=>simp at VD;omega
    |cons x0 A=>exact⟨x0,A,rfl⟩
   have hAl:A.length=rb.length:=by rw [hxA] at VD;simp at VD;omega
   have hall:(w.alloc (.cells (((ks.map Value.string).take i).toArray++Builtin.zeroCells (Value.string ⟨#[]⟩).cells (ks.length+1 - i)++Builtin.zeroCells (Value.string ⟨#[]⟩).cells (cap' - (ks.length+1))) (qj.t 9))).heap[w.heap.size]?=some (.cells (ra++([x0]++(A++z2))).toArray 9 (0,0)):=by
    refine Eq.trans (heap_alloc_new w _) ?_
    have e:((ks.map Value.string).take i).toArray++Builtin.zeroCells (Value.string ⟨#[]⟩).cells (ks.length+1 - i)++Builtin.zeroCells (Value.string ⟨#[]⟩).cells (cap' - (ks.length+1))=(ra++([x0]++(A++z2))).toArray:=by
     apply Array.toList_inj.1
     rw [Array.toList_append,Array.toList_append,←hz1,←hz2,hxA,hra];simp
    rw [e];rfl
   have e1:GR.setRun (ra++([x0]++(A++z2))) i [.string key]=(ra++[.string key])++(A++z2):=by
    have:=mQ ra [x0] (A++z2) [.string key] rfl;rw [anX] at this;rw [this];simp
   have e2:GR.setRun ((ra++[.string key])++(A++z2)) (i+1) rb=rV ks i key++z2:=by
    have:=mQ (ra++[.string key]) A z2 rb hAl.symm;rw [show(ra++[Value.string key]).length=i+1 by simp;omega] at this;rw [this,hins];simp
   refine⟨_,he,Ev (bs:=z2) hi hB hge hle ?_ ?_,?_⟩
   ·rw [List.length_append,kZ ks i key hi];omega
   ·rw [hw,←hrb];have h1:=jQ [.string key] (w:=(w.alloc (.cells (((ks.map Value.string).take i).toArray++Builtin.zeroCells (Value.string ⟨#[]⟩).cells (ks.length+1 - i)++Builtin.zeroCells (Value.string ⟨#[]⟩).cells (cap' - (ks.length+1))) (qj.t 9))).drew) (o:=i) hall;rw [e1] at h1;have h2:=jQ rb (w:=((w.alloc (.cells (((ks.map Value.string).take i).toArray++Builtin.zeroCells (Value.string ⟨#[]⟩).cells (ks.length+1 - i)++Builtin.zeroCells (Value.string ⟨#[]⟩).cells (cap' - (ks.length+1))) (qj.t 9))).drew.setCells w.heap.size i [.string key]).drew) (o:=i+1) h1;rw [e2] at h2;exact h2
   ·rw [hw];refine⟨?_,?_,?_,?_,?_⟩
    ·rw [(fJ _ _ _).1];exact(fJ _ _ _).1
    ·rw [(fJ _ _ _).2.1];exact(fJ _ _ _).2.1
    ·rw [(fJ _ _ _).2.2];exact(fJ _ _ _).2.2
    ·rw [setCells_size];refine Nat.le_trans ?_ (Nat.le_of_eq (setCells_size _ _ _).symm);show w.heap.size≤(w.alloc _).heap.size
     simp
    ·intro k hk _;rw [mP (by omega)];refine(mP (g:=w.heap.size) (g':=k) (by omega) _ _ _).trans ?_;exact Below.heap_alloc w _ _ hk
 ·have hie:i=ks.length:=by omega
  subst hie;by_cases hroom:ks.length+1≤cap
  ·refine(Any2.slices_Insert_string_end_room pJ g 0 ks.length cap vb 0 1 1 [.string key] w (by omega) hroom (by unfold maxLen at hcm;omega) rfl
    (fun j hj=>by rw [Nat.zero_add,hcell];simp;omega) (fun j _=>hfz _) hvs h1v).mono fun e w' ⟨he,hw⟩=>?_
   obtain⟨s0,sp',hsp⟩:∃s0 sp',sp=s0::sp':=by
    exact ZA
   have e1:GR.setRun (ks.map Value.string++sp) (0+ks.length) [.string key]=rV ks ks.length key++sp':=by
    have:=mQ (ks.map Value.string) [s0] sp' [.string key] rfl;rw [List.length_map] at this;rw [Nat.zero_add,hsp,Ie];have e:ks.map Value.string++s0::sp'=ks.map Value.string++([s0]++sp'):=by simp
    rw [e,this];simp
   refine⟨_,he,Ev (bs:=sp') (Nat.le_refl _) hg hroom hcm ?_ ?_,by rw [hw];exact mO w g (0+ks.length) [.string key]⟩
   ·rw [List.length_append,kZ ks _ key (Nat.le_refl _)];rw [hsp] at RJ;simp at RJ;omega
   ·rw [hw];have h1:=jQ [.string key] (w:=w) (o:=0+ks.length) hblk2;rw [e1] at h1;exact h1
  ·exact zN B (some ⟨g,0,none⟩) cap ks key vb w hn hB hnc (by omega) (fun ha=>by cases ha) (fun a ha j u hu=>by
    injection ha with ha
    subst ha
    have e:(⟨g,0,none⟩:Addr).add j=⟨g,0+j,none⟩:=by unfold Addr.add;split<;>simp_all
    rw [e]
    exact abo j u hu) hvs h1v (some g)
structure PM (w:World) (B mp mb n:Nat) (v:Value) (ks:List ByteArray) (G:ByteArray→Pu):Prop where
 blk:w.heap[mp]?=some (.cells #[v,.map (some mb)] 306 (0,0))
 row:w.ownsRow B 9 1 v ks.length (ks.map Value.string)
 map:gH w mb n G
 lop:B≤mp
 lom:B≤mb
theorem own_ne {w:World} {B g n:Nat} {v:Value} {xs:List Value} {t:TypeId} {cs:Array Value} {fr:Nat×Nat} (h:w.ownsRow B 9 1 v n xs) (hg:w.heap[g]?=some (.cells cs t fr)) (ht:t≠9):v.ownBlock≠some g:=by
 rcases h.2 with⟨rfl,_⟩|⟨g',cap,cur,rfl,_,hb,_⟩
 ·intro e;cases e
 ·intro e;injection e with e
  have e':g'=g:=e;subst e';rw [hg] at hb;injection hb with hb
  injection hb with h1 h2 h3
  exact ht h2
theorem uh {w:World} {B g n:Nat} {v:Value} {xs:List Value} {es:Array MapEntry} {clock:Nat} (h:w.ownsRow B 9 1 v n xs) (hg:w.heap[g]?=some (.map es clock)):v.ownBlock≠some g:=by
 rcases h.2 with⟨rfl,_⟩|⟨g',cap,cur,rfl,_,hb,_⟩
 ·intro e;cases e
 ·intro e;injection e with e
  have e':g'=g:=e;subst e';rw [hg] at hb;cases hb
theorem gH.blk {w:World} {mb n:Nat} {G:ByteArray→Pu} (h:gH w mb n G):∃es clock,w.heap[mb]?=some (.map es clock):=by
 obtain⟨D,⟨es,clock,h1,_⟩,_⟩:=h;exact⟨es,clock,h1⟩
theorem PM.mpmb {w:World} {B mp mb n:Nat} {v:Value} {ks:List ByteArray} {G:ByteArray→Pu} (h:PM w B mp mb n v ks G):mp≠mb:=by
 obtain⟨es,clock,hb⟩:=h.map.blk;intro e;have:=h.blk;rw [e,hb] at this;cases this
theorem PM.below {w w':World} {B mp mb n:Nat} {v:Value} {ks:List ByteArray} {G:ByteArray→Pu} (h:PM w B mp mb n v ks G) (hb:Below w.heap.size w w'):PM w' B mp mb n v ks G:=by
 have hg:w.grownBy w' none:=⟨hb.os,hb.tape,hb.output,hb.size,fun k hk _=>hb.block k hk⟩;refine⟨?_,?_,?_,h.lop,h.lom⟩
 ·rw [hb.block _ (Fo.lt_of_blk h.blk)];exact h.blk
 ·refine h.row.kept hg ?_;exact ZC
 ·exact h.map.kept (hb.block _ h.map.lt)
theorem PM.drewN {w:World} {B mp mb n q:Nat} {v:Value} {ks:List ByteArray} {G:ByteArray→Pu} (h:PM w B mp mb n v ks G):PM (w.drewN q) B mp mb n v ks G:=⟨h.blk,h.row,h.map,h.lop,h.lom⟩
theorem PM.turned {w w':World} {B mp mb n n':Nat} {v:Value} {ks:List ByteArray} {G G':ByteArray→Pu} (h:PM w B mp mb n v ks G) (hk:Keeps mb w w') (hm:gH w' mb n' G'):PM w' B mp mb n' v ks G':=by
 have hg:w.grownBy w' (some mb):=⟨hk.os,hk.tape,hk.output,hk.size,fun k hl hne=>hk.block k hl (fun e=>hne (by rw [e]))⟩;obtain⟨es,clock,hb⟩:=h.map.blk;refine⟨?_,?_,hm,h.lop,h.lom⟩
 ·rw [hk.block _ (Fo.lt_of_blk h.blk) h.mpmb];exact h.blk
 ·refine h.row.kept hg (.inr (uh h.row hb))
theorem xV {w w':World} {B g:Nat} (hk:Keeps g w w') (hg:B≤g) (hB:B≤w.heap.size):Below B w w':=⟨hk.os,hk.tape,hk.output,hk.size,fun k hl=>hk.block k (by omega) (by omega)⟩
set_option maxHeartbeats 4000000
abbrev shv (dm df ds:Int):Value:= .agg #[.int .i64 dm,.int .i64 df,.int .i64 ds]
theorem wu {w w1:World} {A B C:Obj} (hb:Below (((w.alloc A).alloc B).alloc C).heap.size (((w.alloc A).alloc B).alloc C) w1):
 w1.heap[w.heap.size]?=some A∧w1.heap[w.heap.size+1+1]?=some C∧Below w.heap.size w w1:=by
 have hs:(((w.alloc A).alloc B).alloc C).heap.size=w.heap.size+1+1+1:=by simp
 refine⟨?_,?_,((((Below.refl _ _).alloc (Nat.le_refl _) _).alloc (by simp) _).alloc (by simp;omega) _).trans (hb.mono (by omega))⟩
 ·rw [hb.block _ (by omega),Below.heap_alloc _ _ _ (by simp;omega),Below.heap_alloc _ _ _ (by simp)];exact heap_alloc_new w A
 ·rw [hb.block _ (by omega)];have h:=heap_alloc_new ((w.alloc A).alloc B) C;rwa [show((w.alloc A).alloc B).heap.size=w.heap.size+1+1 by simp] at h
theorem Es (p:Pu) (dm df ds n:Int) (w:World) (hp:fH p=true) (h1: -1000000000≤dm*n∧dm*n≤1000000000) (h2: -1000000000≤df*n∧df*n≤1000000000) (h3: -1000000000≤ds*n∧ds*n≤1000000000)
 (hf:0≤p.f+df*n) (hs:0≤p.s+ds*n) (hok:fH (dR p dm df ds n)=true):
 Calls Tryz.prog 261 #[wI p,shv dm df ds,.int .i64 n] w fun e w'=>e= .returned (.tuple #[wI (dR p dm df ds n),.nilIface])∧Below w.heap.size w w':=by
 have HO:=hide (fun w1=>l7 (dR p dm df ds n) true w1 hok);open aeW in exact aaL
theorem xw (p:Pu) (dm df ds n:Int) (E:Nat→Addr) (w:World) (hp:fH p=true) (h1: -1000000000≤dm*n∧dm*n≤1000000000) (h2: -1000000000≤df*n∧df*n≤1000000000) (h3: -1000000000≤ds*n∧ds*n≤1000000000)
 (hf:0≤p.f+df*n) (hs:0≤p.s+ds*n) (hok:fH (dR p dm df ds n)=false) (he:gW w E):
 Calls Tryz.prog 261 #[wI p,shv dm df ds,.int .i64 n] w fun e w'=>e= .returned (.tuple #[wI ⟨⟨#[]⟩,0,0,0⟩,qx (E 4)])∧Below w.heap.size w w':=by
 have HO:=hide (fun w1=>l7 (dR p dm df ds n) false w1 hok);have HE:=hide he;open aeV in exact aaL
theorem yE (p:Pu) (dm df ds n:Int) (E:Nat→Addr) (w:World) (hp:fH p=true) (h1: -1000000000≤dm*n∧dm*n≤1000000000) (h2: -1000000000≤df*n∧df*n≤1000000000) (h3: -1000000000≤ds*n∧ds*n≤1000000000)
 (hf:p.f+df*n < 0∨0≤p.f+df*n∧p.s+ds*n < 0) (he:gW w E):
 Calls Tryz.prog 261 #[wI p,shv dm df ds,.int .i64 n] w fun e w'=>e= .returned (.tuple #[wI ⟨⟨#[]⟩,0,0,0⟩,qx (E 3)])∧Below w.heap.size w w':=by
 have HE:=hide he;have hve:3 < w.heap.size:=World.block_lt_of_cell? _ _ (he.var 3 (by omega));open aeU in exact aaL
end Go.Proofs.YtacgbldlonoaaaaGreatDoor
