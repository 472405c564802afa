/- Parts. -/
import Derived.Test.YtfmdndhliinhpaaGreatDoorRa7
import Derived.Test.YtfmdndhliinhpaaGreatDoorRa13
namespace Go.Proofs.YtfmdndhliinhpaaGreatDoor
open Go.RowKit
open Mth
def jQ (I:Nat→Nat) (k gi:Nat):Nat→Nat:=fun i=>if i=k then gi else I i
theorem fq.store {w:World} {a:Option Addr} {g:Nat} {I:Nat→Nat} {l:List Sn} (h:fq w a g I l) (k:Nat) (hk:k < l.length) (s:Sn) (b:Option Addr) (cc gi:Nat) (hi:GR.W aP 1 w b gi s.ids) (hg4:∀x∈nT I l,x≠g) (hgi:∀x∈fp gi s.ids,x≠g):
 fq (GR.setW w g (k*3) [.int .i64 s.f,.int .i64 s.l,.slice b s.ids.length cc]) a g (jQ I k gi) (l.set k s):=by
 obtain⟨T,hT,hl,hr⟩:=h;have Li:k < T.length:=by omega
 have hkp:=aM (g:=g) [.int .i64 s.f,.int .i64 s.l,.slice b s.ids.length cc] w (k*3);refine⟨T.set k ⟨s.f,s.l,.slice b s.ids.length cc⟩,GR.W.set bC hT k ⟨s.f,s.l,.slice b s.ids.length cc⟩ Li,by simpa using hl,fun i hi'=>?_⟩;exact aqJ
theorem KC.setW {c:Nat→Nat} {k g o:Nat} {w:World} (vs:List Value) (hc:c g=k):KC c k w (GR.setW w g o vs):=KC.keeps (aM vs w o) (fun x hx=>by have:x=g:=(by simpa using hx);rw [this];exact hc)
theorem Jj (z:Int):∀(l:List Rq) (i:Nat) (hi:i < l.length),(GR.flat aJ l).set (i*4+3) (.int .i64 z)=GR.flat aJ (l.set i ⟨l[i].no,l[i].k,l[i].n,z⟩):=by
 intro l;induction l with
 |nil=>intro i hi;simp at hi
 |cons x r ih=>
  intro i hi
  cases i with
  |zero=>rfl
  |succ i=>
   have hi2:i < r.length:=by simpa using hi
   have h1:=ih i hi2
   show(aJ x++GR.flat aJ r).set ((i+1)*4+3) (.int .i64 z)=aJ x++GR.flat aJ (r.set i ⟨r[i].no,r[i].k,r[i].n,z⟩)
   rw [←h1,List.set_append_right _ _ (by show 4≤_;omega)]
   congr 2
   show(i+1)*4+3 - 4=_
   omega
theorem qp (s:jH):∀u∈aU s,u.oneCell'=true:=by
 intro u hu;simp only[aU,List.mem_cons,List.not_mem_nil,or_false] at hu;rcases hu with rfl|rfl|rfl|rfl<;>rfl
theorem yB (k:ByteArray) (m f s:Int) (w:World):(Instr.field 84 (.agg #[.string k,.int .i64 m,.int .i64 f,.int .i64 s]) 2).run Tryz.prog w= .ok (.int .i64 f) w:=by kernel_rfl
theorem Ar:(Tryz.prog.info? 55).map (fun i=>(i.zero,i.size,i.bytes))=some (some (.agg #[.int .i64 0,.int .i64 0,.string ByteArray.empty,.int .i64 0]),4,40):=by kernel_rfl
theorem Ur {w:World} {g h i:Nat} {u b0 b1 b2 b3 b4 b5 b6 b7 b8:Value} (hne:g≠h) (e:w.cell? ⟨h,i,none⟩=some u):
 (((((((((w.setCell ⟨g,0,none⟩ b0).setCell ⟨g,1,none⟩ b1).setCell ⟨g,2,none⟩ b2).setCell ⟨g,3,none⟩ b3).setCell ⟨g,4,none⟩ b4).setCell ⟨g,5,none⟩ b5).setCell ⟨g,6,none⟩ b6).setCell ⟨g,7,none⟩ b7).setCell ⟨g,8,none⟩ b8).cell? ⟨h,i,none⟩=some u:=by
 rw [World.cell?_setCell_far _ _ _ _ hne,World.cell?_setCell_far _ _ _ _ hne,World.cell?_setCell_far _ _ _ _ hne,World.cell?_setCell_far _ _ _ _ hne,World.cell?_setCell_far _ _ _ _ hne,World.cell?_setCell_far _ _ _ _ hne,World.cell?_setCell_far _ _ _ _ hne,World.cell?_setCell_far _ _ _ _ hne,World.cell?_setCell_far _ _ _ _ hne];exact e
theorem Ep {l:List Pu} {key:ByteArray} {dm df ds n:Int} (h:(cK l key dm df ds n).2=false):(cK l key dm df ds n).1=l:=by
 exact acy
theorem Ci {n:Nd} {m:Mg} {i:Nat} {s0:Sn} (hi:i < n.seen.length) (e:dU n.seen m.F=i) (hs:n.seen[i]=s0) (h:lT s0 m.L m.I=false) (hg:jE n s0 m=true):takeN n m=(bn (setPu n (cK n.pu m.k 0 1 0 m.N).1) (n.seen.set i ⟨m.F,bY s0 m.L,jy (aQ s0 m.L) m.I⟩),true):=by
 subst e hs;unfold takeN;rw [tY hi,if_neg (by rw [h];simp),if_pos hg]
theorem EL {n:Nd} {m:Mg} {i:Nat} {s0:Sn} (hi:i < n.seen.length) (e:dU n.seen m.F=i) (hs:n.seen[i]=s0) (h:lT s0 m.L m.I=true):takeN n m=(bn n (n.seen.set i ⟨m.F,bY s0 m.L,aQ s0 m.L⟩),true):=by
 subst e hs;unfold takeN;rw [tY hi,if_pos h]
theorem KI {n:Nd} {m:Mg} {i:Nat} {s0:Sn} (hi:i < n.seen.length) (e:dU n.seen m.F=i) (hs:n.seen[i]=s0) (h:lT s0 m.L m.I=false) (hg:jE n s0 m=false):takeN n m=(bn n (n.seen.set i ⟨m.F,bY s0 m.L,aQ s0 m.L⟩),false):=by
 subst e hs;unfold takeN;rw [tY hi,if_neg (by rw [h];simp),if_neg (by rw [hg];simp)]
theorem WK.setPu {w0 w w':World} {wb:Nat} {n:Nd} {A:bQ} {G:aX} {c:Nat→Nat} {v:Value} {L:List Mg} {a:Option Addr} {cp g:Nat} {l:List Pu} (h:WK w0 w wb n A G c v L) (hb:Below w.heap.size w w') (hw:GR.W eG 4 w' a g l) (hg:∀x∈fp g l,w.heap.size≤x):
 WK w0 (w'.setCell ⟨wb,4,none⟩ (.slice a l.length cp)) wb (setPu n l) ⟨A.k,a,A.o,A.s,A.r,A.ck,cp,A.co,A.cs,A.cr⟩ ⟨G.k,g,G.o,G.s,G.r,G.i⟩ (newC w.heap.size 2 c) v L:=by
 have hwb:=aA h.blk;have h1:=(h.recol (c':=newC w.heap.size 2 c) (fun x hx=>dR hx)).step hb;have hk:KC (newC w.heap.size 2 c) 8 w' (w'.setCell ⟨wb,4,none⟩ (.slice a l.length cp)):=KC.set h1.cw;have h2:=h1.no.kc hk (by omega);have hcp:∀x∈fp g l,newC w.heap.size 2 c x=2:=fun x hx=>aW (hg x hx)
 refine⟨hk.below h1.keep h1.no.lo (by omega) h1.keep.size,?_,⟨h2.k,hk.w hw hcp (show(2:Nat)≠8 by omega),h2.o,h2.s,h2.r,h2.lo,h2.ck,hcp,h2.co,h2.c4,h2.ci,h2.cr,h2.ni⟩,hk.own h1.m h1.cm (by omega),h1.cm,h1.cw⟩;exact bg h1.blk 4 (.slice a l.length cp)
set_option maxRecDepth 100000
open Go.RowKit Go.Extern.Stop Go.Stop Go.Extern
structure iw (w:World) (E:Nat→Addr):Prop where
 var:∀i,i < 5→w.cell? ⟨i,0,none⟩=some (.iface 223 (.pointer (some (E i))))
 row:∀i,i < 5→∃c t,w.heap[(E i).block]?=some (.cells c t (0,0))
 ne:∀i j,i < 5→j < 5→i≠j→E i≠E j
theorem iw.below {w w':World} {E:Nat→Addr} (h:iw w E) (hb:Below w.heap.size w w'):iw w' E:=by
 refine⟨fun i hi=>?_,fun i hi=>?_,h.ne⟩
 ·rw [hb.cell (p:=⟨i,0,none⟩) (World.block_lt_of_cell? _ _ (h.var i hi))];exact h.var i hi
 ·obtain⟨c,t,hc⟩:=h.row i hi;refine⟨c,t,?_⟩;rw [hb.block _ ?_]
  ·exact hc
  ·rcases Nat.lt_or_ge (E i).block w.heap.size with h'|h'
   ·exact h'
   ·rw [Array.getElem?_eq_none h'] at hc;cases hc
abbrev qw (a:Addr):Value:= .iface 223 (.pointer (some a))
namespace Is
theorem typeOf (v:Value) (w:World):(Extern.ReflectliteType.typeOf #[.iface 223 v]).run Tryz.prog w= .ok (.iface 210 (.agg #[.pointer (some ⟨5,223,none⟩)])) w:=by kernel_rfl
def cmp:Array Value→Sem Value:=Extern.ReflectliteType.method fun t=>do Extern.Rtype.noPackHeld "Comparable" t;pure (.bool (←typeInfo t).comparable)
theorem comparable (w:World):(cmp #[.agg #[.pointer (some ⟨5,223,none⟩)]]).run Tryz.prog w= .ok (.bool true) w:=by kernel_rfl
theorem methodComparable (v:Value) (w:World):(Go.method 358 210 v "Comparable").run Tryz.prog w= .ok (198,v) w:=by kernel_rfl
theorem comp:(Tryz.prog.info? 223).map (·.comparable)=some true:=by kernel_rfl
theorem size:(Tryz.prog.info? 247).map (·.size)=some 1:=by kernel_rfl
theorem noIs (v:Value) (xT:TypeId) (w:World):(Instr.typeAssert (.iface 223 v) xT 212 true).run Tryz.prog w= .ok (.tuple #[.nilIface,.bool false]) w:=run_typeAssert_lacksB Tryz.underlying212 (by kernel_rfl) (by kernel_rfl) v xT w
theorem noUnwrap (v:Value) (xT:TypeId) (w:World):(Instr.typeAssert (.iface 223 v) xT 214 true).run Tryz.prog w= .ok (.tuple #[.nilIface,.bool false]) w:=run_typeAssert_lacksB Tryz.underlying214 (by kernel_rfl) (by kernel_rfl) v xT w
theorem noUnwraps (v:Value) (xT:TypeId) (w:World):(Instr.typeAssert (.iface 223 v) xT 216 true).run Tryz.prog w= .ok (.tuple #[.nilIface,.bool false]) w:=run_typeAssert_lacksB Tryz.underlying216 (by kernel_rfl) (by kernel_rfl) v xT w
end Is
theorem Yw (a:Addr) (w:World):Calls Tryz.prog 147 #[qw a,qw a] w fun e w'=>e= .returned (.bool true)∧w=w':=by
 open akn in exact ZJ
theorem aee (b:Addr) (w:World):Calls Tryz.prog 147 #[.nilIface,qw b] w fun e w'=>e= .returned (.bool false)∧w=w':=by
 have hn:=run_eql_iface_nil_left (P:=Tryz.prog) w 223 (.pointer (some b)) Tryz.underlying147;go_enter Tryz.func147,Tryz.ntmps147
 go_wp2
 go_ret;exact⟨rfl,rfl⟩
theorem Vq (a b:Addr) (ca cb:Array Value) (ta tb:TypeId) (w:World) (hne:a≠b) (ha:w.heap[a.block]?=some (.cells ca ta (0,0))) (hb:w.heap[b.block]?=some (.cells cb tb (0,0))):
 Calls Tryz.prog 147 #[qw a,qw b] w fun e w'=>e= .returned (.bool false)∧w=w':=by
 open akm in exact ZJ
theorem acE {w:World} {E:Nat→Addr} (h:iw w E) (i j:Nat) (b:Bool) (hi:i < 5) (hj:j < 5) (hb:(i == j)=b):Calls Tryz.prog 147 #[qw (E i),qw (E j)] w fun e w'=>e= .returned (.bool b)∧w=w':=by
 cases b with
 |true=>
  have e:i=j:=by simpa using hb
  subst e
  exact Yw (E i) w
 |false=>
  obtain⟨c1,t1,h1⟩:=h.row i hi
  obtain⟨c2,t2,h2⟩:=h.row j hj
  exact Vq (E i) (E j) c1 c2 t1 t2 w (h.ne i j hi hj (by simpa using hb)) h1 h2
set_option maxHeartbeats 2000000
open Go.RowKit Go.Maps
theorem Jz (p:Pu) (w:World):Calls Tryz.prog 166 #[wY p] w fun e w'=>e= .returned (.bool (nothing p))∧Below w.heap.size w w':=by
 obtain⟨pk,pm,pf,ps⟩:=p;go_enter Tryz.func166,Tryz.ntmps166
 go_wp2
 all_goals
  go_ret
  exact⟨by simp[nothing, *],dA w _⟩
theorem lF {w:World} {g:Nat} {a0 a1:Value} {t:TypeId} (h:w.heap[g]?=some (.cells #[a0,a1] t (0,0))):
 (w.cell? ⟨g,0,none⟩=some a0∧w.cell? ⟨g,1,none⟩=some a1)∧(w.frozen? ⟨g,0,none⟩=false∧w.frozen? ⟨g,1,none⟩=false):=by
 have hc:∀i,w.cell? ⟨g,i,none⟩=#[a0,a1][i]?:=fun i=>cell_of_row w g i _ t (0,0) h
 have hf:∀i,w.frozen? ⟨g,i,none⟩=false:=fun i=>by unfold World.frozen?;rw [h];simp
 exact⟨⟨hc 0,hc 1⟩,hf 0,hf 1⟩
theorem gP.mono {w:World} {mb n n':Nat} {G:ByteArray→Pu} (h:gP w mb n G) (hn:n≤n'):gP w mb n' G:=by
 obtain⟨D,h1,h2⟩:=h;exact⟨D,h1.mono hn,h2⟩
theorem OL (mp mb n:Nat) (v:Value) (G:ByteArray→Pu) (p:Pu) (w:World) (hk:p.k.size≤1048576) (hn:n < maxLen) (hm:w.heap[mp]?=some (.cells #[v,.map (some mb)] 191 (0,0))) (hM:gP w mb n G):
 Calls Tryz.prog 157 #[.pointer (some ⟨mp,0,none⟩),wY p] w fun e w'=>e= .returned (.tuple #[])∧gP w' mb (n+1) (upd G p)∧Keeps mb w w':=by
 have HN:=hide (fun w1=>Jz p w1);have HM:=hide hm;have HI:=hide hM;have hkm:p.k.size≤maxLen:=by unfold maxLen;omega
 have hmp:=Fo.lt_of_blk hm;have hmb:=hM.lt;cases hno:nothing p
 ·obtain⟨pk,pm,pf,ps⟩:=p;have HST:=hide (fun w1 h=>gP.store (w:=w1) (mb:=mb) (n:=n) (G:=G) h ⟨pk,pm,pf,ps⟩ hkm hn hno);open akp in exact ZK
 ·obtain⟨pk,pm,pf,ps⟩:=p;have HST:=hide (fun w1 ty h=>gP.drop (w:=w1) (mb:=mb) (n:=n) (G:=G) h ⟨pk,pm,pf,ps⟩ hkm hno ty);open ako in exact ZK
theorem FW (mp mb n:Nat) (v:Value) (G:ByteArray→Pu) (k:ByteArray) (w:World) (hk:k.size≤1048576) (hm:w.heap[mp]?=some (.cells #[v,.map (some mb)] 191 (0,0))) (hM:gP w mb n G):
 Calls Tryz.prog 158 #[.pointer (some ⟨mp,0,none⟩),.string k] w fun e w'=>e= .returned (wY (G k))∧Below w.heap.size w w':=by
 have hmp:=Fo.lt_of_blk hm;have hmb:=hM.lt;obtain⟨⟨m0,m1⟩,_⟩:=lF hm;have hGk:=(hM.choose_spec.2 k).1;have hrun:=(gP.kept (w':=w.alloc (.cells #[.string ⟨#[]⟩,.int .i64 0,.int .i64 0,.int .i64 0] 84)) hM (by rw [Below.heap_alloc _ _ _ hmb])).look k (by unfold maxLen;omega);clear hm hM;cases hno:nothing (G k)
 ·rw [hno] at hrun;generalize G k=p at *;obtain⟨pk,pm,pf,ps⟩:=p;dsimp only at hGk;subst hGk;simp only[Bool.not_false,if_neg Bool.false_ne_true] at hrun;go_enter Tryz.func158,Tryz.ntmps158
  go_wp2_with fail;exact bodyPost_ret (v:= .agg #[.string pk,.int .i64 pm,.int .i64 pf,.int .i64 ps]) (by simp[results,Tryz.results158,go_sem]) rfl ⟨rfl,((Below.refl _ _).alloc (Nat.le_refl _) _).alloc (by simp) _⟩
 ·have hG0:G k=⟨k,0,0,0⟩:=by
   obtain⟨h1,h2,h3⟩:=(JX _).1 hno;generalize G k=p at *;obtain⟨pk,pm,pf,ps⟩:=p;dsimp only at hGk h1 h2 h3;rw [hGk,h1,h2,h3]
  rw [hno] at hrun;rw [hG0];clear hno hG0 hGk;simp only[Bool.not_true,if_pos] at hrun;go_enter Tryz.func158,Tryz.ntmps158
  go_wp2_with fail;exact bodyPost_ret (v:= .agg #[.string k,.int .i64 0,.int .i64 0,.int .i64 0]) (by simp[results,Tryz.results158,go_sem]) rfl ⟨rfl,((Below.refl _ _).alloc (Nat.le_refl _) _).alloc (by simp) _⟩
open Go.Shelf Go.Proofs
def rC:Go.Shelf.Ren:=⟨fun|17=>175|22=>168|29=>171|30=>172|36=>174|26=>167|33=>169|34=>170|38=>173|n=>n,fun|0=>0|3=>3|4=>4|9=>9|24=>72|40=>109|n=>n,fun n=>n⟩
theorem qE:Lays2.n22 Tryz.prog rC:={
 mixed:=by kernel_rfl
 f17:=Tryz.func175.trans (congrArg some (by kernel_rfl))
 f22:=Tryz.func168.trans (congrArg some (by kernel_rfl))
 f29:=Tryz.func171.trans (congrArg some (by kernel_rfl))
 f30:=Tryz.func172.trans (congrArg some (by kernel_rfl))
 f36:=Tryz.func174.trans (congrArg some (by kernel_rfl))
 t0:=Tryz.underlying0
 a0:=Tryz.isAgg0
 z0:=Tryz.sizeOf0
 v0:=Tryz.zeroValue0
 t3:=Tryz.underlying3
 a3:=Tryz.isAgg3
 z3:=Tryz.sizeOf3
 v3:=Tryz.zeroValue3
 t4:=Tryz.underlying4
 a4:=Tryz.isAgg4
 z4:=Tryz.sizeOf4
 v4:=Tryz.zeroValue4
 t9:=Tryz.underlying9
 a9:=Tryz.isAgg9
 z9:=Tryz.sizeOf9
 v9:=Tryz.zeroValue9
 t24:=Tryz.underlying72
 a24:=Tryz.isAgg72
 z24:=Tryz.sizeOf72
 v24:=Tryz.zeroValue72
 i9:=by kernel_rfl}
theorem BK:Lays2.n26 Tryz.prog rC:={
 mixed:=by kernel_rfl
 f26:=Tryz.func167.trans (congrArg some (by kernel_rfl))
 f33:=Tryz.func169.trans (congrArg some (by kernel_rfl))
 f34:=Tryz.func170.trans (congrArg some (by kernel_rfl))
 f38:=Tryz.func173.trans (congrArg some (by kernel_rfl))
 t0:=Tryz.underlying0
 a0:=Tryz.isAgg0
 z0:=Tryz.sizeOf0
 v0:=Tryz.zeroValue0
 t3:=Tryz.underlying3
 a3:=Tryz.isAgg3
 z3:=Tryz.sizeOf3
 v3:=Tryz.zeroValue3
 t4:=Tryz.underlying4
 a4:=Tryz.isAgg4
 z4:=Tryz.sizeOf4
 v4:=Tryz.zeroValue4
 t9:=Tryz.underlying9
 a9:=Tryz.isAgg9
 z9:=Tryz.sizeOf9
 v9:=Tryz.zeroValue9
 t24:=Tryz.underlying72
 a24:=Tryz.isAgg72
 z24:=Tryz.sizeOf72
 v24:=Tryz.zeroValue72
 t40:=Tryz.underlying109
 a40:=Tryz.isAgg109
 z40:=Tryz.sizeOf109
 v40:=Tryz.zeroValue109}
theorem lC:∀(vs:List Value) {w:World} {g o:Nat} {xs:List Value} {t:TypeId},w.heap[g]?=some (.cells xs.toArray t (0,0))→(w.setCells g o vs).heap[g]?=some (.cells (GR.setRun xs o vs).toArray t (0,0)):=by
 intro vs;induction vs with
 |nil=>intro w g o xs t h;exact h
 |cons v vs ih=>
  intro w g o xs t h
  refine ih (xs:=xs.set o v) ?_
  have:=Fo.blk_set h o v
  simpa using this
theorem nO {g g':Nat} (hne:g'≠g):∀(vs:List Value) (w:World) (o:Nat),(w.setCells g o vs).heap[g']?=w.heap[g']?:=by
 intro vs;induction vs with
 |nil=>intro w o;rfl
 |cons v vs ih=>intro w o;exact(ih (w.setCell ⟨g,o,none⟩ v) (o+1)).trans (Below.heap_setCell _ _ _ _ hne)
theorem setCells_size {g:Nat}:∀(vs:List Value) (w:World) (o:Nat),(w.setCells g o vs).heap.size=w.heap.size:=by
 intro vs;induction vs with
 |nil=>intro w o;rfl
 |cons v vs ih=>intro w o;exact(ih (w.setCell ⟨g,o,none⟩ v) (o+1)).trans (Fo.setCell_size w _ v)
theorem fZ {g:Nat}:∀(vs:List Value) (w:World) (o:Nat),(w.setCells g o vs).os=w.os∧(w.setCells g o vs).tape=w.tape∧(w.setCells g o vs).output=w.output:=by
 intro vs;induction vs with
 |nil=>intro w o;exact⟨rfl,rfl,rfl⟩
 |cons v vs ih=>intro w o;exact ih (w.setCell ⟨g,o,none⟩ v) (o+1)
theorem nN (w:World) (g o:Nat) (vs:List Value):w.grownBy (w.setCells g o vs) (some g):=
 ⟨(fZ vs w o).1,(fZ vs w o).2.1,(fZ vs w o).2.2,by rw [setCells_size];exact Nat.le_refl _,fun k _ hne=>nO (fun e=>hne (by rw [e])) vs w o⟩
theorem nP (a m b vs:List Value) (h:vs.length=m.length):GR.setRun (a++(m++b)) a.length vs=a++(vs++b):=by
 have:=GR.setRun_append_right a vs 0 (m++b);rw [Nat.add_zero] at this;rw [this,GR.setRun_head vs m b h]
def uh (ks:List ByteArray) (i:Nat) (key:ByteArray):List Value:=(ks.map Value.string).take i++(.string key::(ks.map Value.string).drop i)
theorem mH (ks:List ByteArray) (i:Nat) (key:ByteArray) (hi:i≤ks.length):(uh ks i key).length=ks.length+1:=by
 unfold uh;simp;omega
theorem wV (ks:List ByteArray):∀v∈ks.map Value.string,v.oneCell'=true:=by
 intro v hv;obtain⟨k,_,rfl⟩:=List.mem_map.1 hv;rfl
theorem ars (B:Nat) (v:Value) (l:List Pu) (key:ByteArray) (w:World) (hp:l.Pairwise F8) (hl:l.length≤20) (h:w.ownsRow B 9 1 v l.length ((l.map (·.k)).map Value.string)):
 Calls Tryz.prog 167 #[v,.string key] w fun e w'=>e= .returned (.tuple #[.int .i64 (place l key:Nat),.bool (found l key)])∧∃q,w'=w.drewN q:=by
 by_cases h0:l.length=0
 ·have hl0:l=[]:=List.eq_nil_of_length_eq_zero h0;subst hl0
  have hv:∃a c,v= .slice a 0 c:=by
   rcases h.2 with⟨rfl,_⟩|⟨g,cap,cur,rfl,_⟩
   ·exact⟨none,0,rfl⟩
   ·exact⟨_,_,rfl⟩
  obtain⟨a,c,rfl⟩:=hv;exact(Any2.slices_BinarySearch_string_empty BK a c key w).mono fun e w' ⟨he,hw⟩=>⟨by rw [he];rfl,0,hw⟩
 ·obtain⟨g,cap,rfl,_,_⟩:=h.form (by omega)
  have hb:=Any2.slices_BinarySearch_string BK g 0 l.length cap (rZ l key) key w (by omega) (fun j hj=>by
   have hc:=h.cellAt j (by omega)
   rw [Nat.zero_add,hc]
   unfold rZ
   simp[hj])
  rw [Uj hp key,Ja l key] at hb;exact hb
theorem F5 {w:World} {B g cap:Nat} {ks:List ByteArray} {i:Nat} {key:ByteArray} {bs:List Value} (hi:i≤ks.length) (hg:B≤g) (hcap:ks.length+1≤cap) (hcm:cap≤maxLen) (hlen:(uh ks i key++bs).length=cap)
 (h:w.heap[g]?=some (.cells (uh ks i key++bs).toArray 9 (0,0))):w.ownsRow B 9 1 (.slice (some ⟨g,0,none⟩) (ks.length+1) cap) (ks.length+1) (uh ks i key):=by
 have hl:=mH ks i key hi;refine⟨by omega,.inr ⟨g,cap,_,rfl,hg,h,hcap,hcm,by rw [List.size_toArray];omega,?_⟩⟩;rw [List.toList_toArray,Nat.mul_one,←hl,List.take_left'];rfl
theorem qV (n:Nat):(Builtin.zeroCells (Value.string ⟨#[]⟩).cells n).toList.length=n:=by
 rw [Array.length_toList,size_zeroCells];simp[Value.cells]
theorem yD (w:World) (o:Obj) (row:Option Nat):w.grownBy (w.drew.alloc o) row:=
 ⟨rfl,rfl,rfl,by simp,fun k hk _=>Below.heap_alloc w.drew _ _ hk⟩
theorem JK (ks:List ByteArray) (key:ByteArray):uh ks ks.length key=ks.map Value.string++[.string key]:=by
 unfold uh;rw [List.take_of_length_le (by simp),List.drop_of_length_le (by simp)]
theorem BF (B:Nat) (base:Option Addr) (c:Nat) (ks:List ByteArray) (key:ByteArray) (vb:Nat) (w:World) (hn:ks.length≤20) (hB:B≤w.heap.size) (hnc:ks.length≤c) (hroom:c < ks.length+1) (hnil:base=none→ks.length=0)
 (hcs:∀a,base=some a→∀(j:Nat) (v:Value),(ks.map Value.string)[j]?=some v→w.cell? (a.add j)=some v)
 (hvs:∀(j:Nat) (u:Value),[Value.string key][j]?=some u→w.cell? ⟨vb,0+j,none⟩=some u) (h1v:∀u∈[Value.string key],u.oneCell'=true) (row:Option Nat):
 Calls Tryz.prog 168 #[.slice base ks.length c,.int .i64 (ks.length:Nat),.slice (some ⟨vb,0,none⟩) 1 1] w fun e w'=>∃v',e= .returned v'∧w'.ownsRow B 9 1 v' (ks.length+1) (uh ks ks.length key)∧w.grownBy w' row:=by
 refine(Any2.slices_Insert_string_end_grow qE base ks.length c vb 0 1 1 (ks.map Value.string) [.string key] w (by omega) hnc hroom (by omega) (by simp) rfl hnil hcs hvs h1v).mono fun e w' ⟨he,hw⟩=>?_
 have hge:=grownCap_ge w (ks.length+1) c (rC.t 9);have hle:=grownCap_le_maxLen w (ks.length+1) c (rC.t 9) (by unfold maxLen;omega);refine⟨_,he,?_,by rw [hw];exact yD w _ row⟩;generalize grownCap w (ks.length+1) c (rC.t 9)=cap at *;refine F5 (w:=w') (bs:=(Builtin.zeroCells (Value.string ⟨#[]⟩).cells (cap - (ks.length+1))).toList) (Nat.le_refl _) hB hge hle ?_ ?_
 ·rw [List.length_append,qV,mH _ _ _ (Nat.le_refl _)];omega
 ·rw [hw];have:=heap_alloc_new w.drew (.cells ((ks.map Value.string++[Value.string key]).toArray++Builtin.zeroCells (Value.string ⟨#[]⟩).cells (cap - (ks.length+1))) (rC.t 9));refine Eq.trans this ?_;rw [JK]
  have e:(ks.map Value.string++[Value.string key]).toArray++Builtin.zeroCells (Value.string ⟨#[]⟩).cells (cap - (ks.length+1))=(ks.map Value.string++[Value.string key]++(Builtin.zeroCells (Value.string ⟨#[]⟩).cells (cap - (ks.length+1))).toList).toArray:=by
   apply Array.toList_inj.1
   simp
  rw [e];rfl
theorem aec (B:Nat) (v:Value) (ks:List ByteArray) (i:Nat) (key:ByteArray) (vb:Nat) (w:World) (hi:i≤ks.length) (hn:ks.length≤20) (hB:B≤w.heap.size) (h:w.ownsRow B 9 1 v ks.length (ks.map Value.string))
 (hv:w.heap[vb]?=some (.cells #[.string key] 9 (0,0))) (hvb:v.ownBlock≠some vb):
 Calls Tryz.prog 168 #[v,.int .i64 (i:Nat),.slice (some ⟨vb,0,none⟩) 1 1] w fun e w'=>∃v',e= .returned v'∧w'.ownsRow B 9 1 v' (ks.length+1) (uh ks i key)∧w.grownBy w' v.ownBlock:=by
 have hvs:∀(j:Nat) (u:Value),[Value.string key][j]?=some u→w.cell? ⟨vb,0+j,none⟩=some u:=fun j u hu=>by
  rw [cell_of_row w vb _ _ 9 (0,0) hv,Nat.zero_add]
  simpa using hu
 have h1v:∀u∈[Value.string key],u.oneCell'=true:=fun u hu=>by rw [List.mem_singleton.1 hu];rfl
 have hfree:∀j,w.frozen? ⟨vb,j,none⟩=false:=fun j=>by unfold World.frozen?;rw [hv];simp
 have hsa:w.shape? vb=some (9,1):=by unfold World.shape?;rw [hv];rfl
 rcases h.2 with⟨rfl,h0⟩|⟨g,cap,cur,rfl,hg,hblk,hnc,hcm,hcs,htk⟩
 ·have hi0:i=ks.length:=by omega
  subst hi0;have:=BF B none 0 ks key vb w hn hB (by omega) (by omega) (fun _=>h0) (fun a ha=>by cases ha) hvs h1v none;rw [h0] at this ⊢;exact this
 have avp:vb≠g:=fun e=>hvb (by rw [e];rfl)
 obtain⟨sp,hcur⟩:∃sp,cur.toList=ks.map Value.string++sp:=⟨cur.toList.drop ks.length,by
  rw [Nat.mul_one] at htk
  rw [←htk,List.take_append_drop]⟩
 have hblk2:w.heap[g]?=some (.cells (ks.map Value.string++sp).toArray 9 (0,0)):=by rw [hblk,←hcur]
 have UW:ks.length+sp.length=cap:=by
  have:=congrArg List.length hcur;rw [Array.length_toList,hcs] at this;simp at this;omega
 have hcell:∀j,w.cell? ⟨g,j,none⟩=(ks.map Value.string++sp)[j]?:=fun j=>by
  rw [cell_of_row w g j _ 9 (0,0) hblk2]
  simp
 have hfz:∀j,w.frozen? ⟨g,j,none⟩=false:=fun j=>by unfold World.frozen?;rw [hblk2];simp
 have adR:∀(j:Nat) (u:Value),(ks.map Value.string)[j]?=some u→w.cell? ⟨g,0+j,none⟩=some u:=fun j u hu=>by
  rw [Nat.zero_add,hcell,List.getElem?_append_left (List.getElem?_eq_some_iff.1 hu).1]
  exact hu
 rcases Nat.lt_or_ge i ks.length with hlt|hge
 ·obtain⟨ra,hra⟩:∃ra,ra=(ks.map Value.string).take i:=⟨_,rfl⟩;obtain⟨rb,hrb⟩:∃rb,rb=(ks.map Value.string).drop i:=⟨_,rfl⟩;have hsplit:ks.map Value.string=ra++rb:=by rw [hra,hrb,List.take_append_drop]
  have arT:ra.length=i:=by rw [hra];simp;omega
  have awj:rb.length=ks.length - i:=by rw [hrb];simp
  have hins:uh ks i key=ra++(.string key::rb):=by unfold uh;rw [←hra,←hrb]
  by_cases hroom:ks.length+1≤cap
  ·have hsb:w.shape? g=some (9,cap):=by unfold World.shape?;rw [hblk2];simp;omega
   refine(Any2.slices_Insert_string_shift qE g 0 ks.length cap i vb 0 1 1 (ks.map Value.string) [.string key] w hlt (by omega) hroom (by unfold maxLen at hcm;omega) avp (by simp) rfl adR
    (fun j hj=>by rw [Nat.zero_add,hcell];simp;omega) (fun j _=>hfz _) hvs (wV ks) h1v 9 9 1 cap hsa hsb (by omega) (hfree _) (hfree _)).mono fun e w' ⟨he,hw⟩=>?_
   obtain⟨s0,sp',hsp⟩:∃s0 sp',sp=s0::sp':=by
    exact aci
   obtain⟨x0,A,hxA,hAl⟩:∃x0 A,rb++[s0]=x0::A∧A.length=rb.length:=by
    cases hb:rb++[s0] with
    |nil=>simp at hb
    |cons x0 A=>
     refine⟨x0,A,rfl,?_⟩
     have:=congrArg List.length hb
     simp at this
     omega
   have hxs:ks.map Value.string++sp=(ra++[x0])++(A++sp'):=by
    rw [hsplit,hsp];have:ra++rb++s0::sp'=ra++((rb++[s0])++sp'):=by simp
    rw [this,hxA];simp
   have e1:GR.setRun (ks.map Value.string++sp) (0+(i+1)) rb=(ra++[x0])++(rb++sp'):=by
    rw [hxs];have:=nP (ra++[x0]) A sp' rb hAl.symm;rw [show(ra++[x0]).length=0+(i+1) by simp;omega] at this;exact this
   have e2:GR.setRun ((ra++[x0])++(rb++sp')) (0+i) [.string key]=uh ks i key++sp':=by
    have:=nP ra [x0] (rb++sp') [.string key] rfl;rw [arT] at this;rw [Nat.zero_add,hins];have e:(ra++[x0])++(rb++sp')=ra++([x0]++(rb++sp')):=by simp
    rw [e,this];simp
   refine⟨_,he,F5 (bs:=sp') hi hg hroom hcm ?_ ?_,?_⟩
   ·rw [List.length_append,mH ks i key hi];rw [hsp] at UW;simp at UW;omega
   ·rw [hw,←hrb];have h1:=lC rb (w:=w.drew) (o:=0+(i+1)) hblk2;rw [e1] at h1;have h2:=lC [.string key] (o:=0+i) h1;rw [e2] at h2;exact h2
   ·rw [hw];have h1:=nN w.drew g (0+(i+1)) ((ks.map Value.string).drop i);have h2:=nN (w.drew.setCells g (0+(i+1)) ((ks.map Value.string).drop i)) g (0+i) [.string key];exact⟨h2.os.trans h1.os,h2.tape.trans h1.tape,h2.output.trans h1.output,Nat.le_trans h1.size h2.size,fun k hk hne=>(h2.block k (Nat.lt_of_lt_of_le hk h1.size) hne).trans (h1.block k hk hne)⟩
  ·have avG:cap=ks.length:=by omega
   refine(Any2.slices_Insert_string_grow qE g 0 ks.length cap i vb 0 1 1 (ks.map Value.string) [.string key] w hlt (by omega) hnc (by omega) (by omega) (by simp) rfl adR hvs (wV ks) h1v).mono fun e w' ⟨he,hw⟩=>?_
   have hge:=grownCap_ge w (ks.length+1) cap (rC.t 9);have hle:=grownCap_le_maxLen w (ks.length+1) cap (rC.t 9) (by unfold maxLen;omega);generalize grownCap w (ks.length+1) cap (rC.t 9)=cap' at *;obtain⟨z1,hz1⟩:∃z1,z1=(Builtin.zeroCells (Value.string ⟨#[]⟩).cells (ks.length+1 - i)).toList:=⟨_,rfl⟩;obtain⟨z2,hz2⟩:∃z2,z2=(Builtin.zeroCells (Value.string ⟨#[]⟩).cells (cap' - (ks.length+1))).toList:=⟨_,rfl⟩;have Yq:z1.length=ks.length+1 - i:=by rw [hz1,qV]
   have zP:z2.length=cap' - (ks.length+1):=by rw [hz2,qV]
   obtain⟨x0,A,hxA⟩:∃x0 A,z1=x0::A:=by
    cases z1 with
    |nil=>simp at Yq;omega
    |cons x0 A=>exact⟨x0,A,rfl⟩
   have hAl:A.length=rb.length:=by rw [hxA] at Yq;simp at Yq;omega
   have hall:(w.alloc (.cells (((ks.map Value.string).take i).toArray++Builtin.zeroCells (Value.string ⟨#[]⟩).cells (ks.length+1 - i)++Builtin.zeroCells (Value.string ⟨#[]⟩).cells (cap' - (ks.length+1))) (rC.t 9))).heap[w.heap.size]?=some (.cells (ra++([x0]++(A++z2))).toArray 9 (0,0)):=by
    refine Eq.trans (heap_alloc_new w _) ?_
    have e:((ks.map Value.string).take i).toArray++Builtin.zeroCells (Value.string ⟨#[]⟩).cells (ks.length+1 - i)++Builtin.zeroCells (Value.string ⟨#[]⟩).cells (cap' - (ks.length+1))=(ra++([x0]++(A++z2))).toArray:=by
     apply Array.toList_inj.1
     rw [Array.toList_append,Array.toList_append,←hz1,←hz2,hxA,hra];simp
    rw [e];rfl
   have e1:GR.setRun (ra++([x0]++(A++z2))) i [.string key]=(ra++[.string key])++(A++z2):=by
    have:=nP ra [x0] (A++z2) [.string key] rfl;rw [arT] at this;rw [this];simp
   have e2:GR.setRun ((ra++[.string key])++(A++z2)) (i+1) rb=uh ks i key++z2:=by
    have:=nP (ra++[.string key]) A z2 rb hAl.symm;rw [show(ra++[Value.string key]).length=i+1 by simp;omega] at this;rw [this,hins];simp
   refine⟨_,he,F5 (bs:=z2) hi hB hge hle ?_ ?_,?_⟩
   ·rw [List.length_append,mH ks i key hi];omega
   ·rw [hw,←hrb];have h1:=lC [.string key] (w:=(w.alloc (.cells (((ks.map Value.string).take i).toArray++Builtin.zeroCells (Value.string ⟨#[]⟩).cells (ks.length+1 - i)++Builtin.zeroCells (Value.string ⟨#[]⟩).cells (cap' - (ks.length+1))) (rC.t 9))).drew) (o:=i) hall;rw [e1] at h1;have h2:=lC rb (w:=((w.alloc (.cells (((ks.map Value.string).take i).toArray++Builtin.zeroCells (Value.string ⟨#[]⟩).cells (ks.length+1 - i)++Builtin.zeroCells (Value.string ⟨#[]⟩).cells (cap' - (ks.length+1))) (rC.t 9))).drew.setCells w.heap.size i [.string key]).drew) (o:=i+1) h1;rw [e2] at h2;exact h2
   ·rw [hw];refine⟨?_,?_,?_,?_,?_⟩
    ·rw [(fZ _ _ _).1];exact(fZ _ _ _).1
    ·rw [(fZ _ _ _).2.1];exact(fZ _ _ _).2.1
    ·rw [(fZ _ _ _).2.2];exact(fZ _ _ _).2.2
    ·rw [setCells_size];refine Nat.le_trans ?_ (Nat.le_of_eq (setCells_size _ _ _).symm);show w.heap.size≤(w.alloc _).heap.size
     simp
    ·intro k hk _;rw [nO (by omega)];refine(nO (g:=w.heap.size) (g':=k) (by omega) _ _ _).trans ?_;exact Below.heap_alloc w _ _ hk
 ·have hie:i=ks.length:=by omega
  subst hie;by_cases hroom:ks.length+1≤cap
  ·refine(Any2.slices_Insert_string_end_room qE g 0 ks.length cap vb 0 1 1 [.string key] w (by omega) hroom (by unfold maxLen at hcm;omega) rfl
    (fun j hj=>by rw [Nat.zero_add,hcell];simp;omega) (fun j _=>hfz _) hvs h1v).mono fun e w' ⟨he,hw⟩=>?_
   obtain⟨s0,sp',hsp⟩:∃s0 sp',sp=s0::sp':=by
    exact aci
   have e1:GR.setRun (ks.map Value.string++sp) (0+ks.length) [.string key]=uh ks ks.length key++sp':=by
    have:=nP (ks.map Value.string) [s0] sp' [.string key] rfl;rw [List.length_map] at this;rw [Nat.zero_add,hsp,JK];have e:ks.map Value.string++s0::sp'=ks.map Value.string++([s0]++sp'):=by simp
    rw [e,this];simp
   refine⟨_,he,F5 (bs:=sp') (Nat.le_refl _) hg hroom hcm ?_ ?_,by rw [hw];exact nN w g (0+ks.length) [.string key]⟩
   ·rw [List.length_append,mH ks _ key (Nat.le_refl _)];rw [hsp] at UW;simp at UW;omega
   ·rw [hw];have h1:=lC [.string key] (w:=w) (o:=0+ks.length) hblk2;rw [e1] at h1;exact h1
  ·exact BF B (some ⟨g,0,none⟩) cap ks key vb w hn hB hnc (by omega) (fun ha=>by cases ha) (fun a ha j u hu=>by
    injection ha with ha
    subst ha
    have e:(⟨g,0,none⟩:Addr).add j=⟨g,0+j,none⟩:=by unfold Addr.add;split<;>simp_all
    rw [e]
    exact adR j u hu) hvs h1v (some g)
structure PM (w:World) (B mp mb n:Nat) (v:Value) (ks:List ByteArray) (G:ByteArray→Pu):Prop where
 blk:w.heap[mp]?=some (.cells #[v,.map (some mb)] 191 (0,0))
 row:w.ownsRow B 9 1 v ks.length (ks.map Value.string)
 map:gP w mb n G
 lop:B≤mp
 lom:B≤mb
theorem own_ne {w:World} {B g n:Nat} {v:Value} {xs:List Value} {t:TypeId} {cs:Array Value} {fr:Nat×Nat} (h:w.ownsRow B 9 1 v n xs) (hg:w.heap[g]?=some (.cells cs t fr)) (ht:t≠9):v.ownBlock≠some g:=by
 rcases h.2 with⟨rfl,_⟩|⟨g',cap,cur,rfl,_,hb,_⟩
 ·intro e;cases e
 ·intro e;injection e with e
  have e':g'=g:=e;subst e';rw [hg] at hb;injection hb with hb
  injection hb with h1 h2 h3
  exact ht h2
theorem uZ {w:World} {B g n:Nat} {v:Value} {xs:List Value} {es:Array MapEntry} {clock:Nat} (h:w.ownsRow B 9 1 v n xs) (hg:w.heap[g]?=some (.map es clock)):v.ownBlock≠some g:=by
 rcases h.2 with⟨rfl,_⟩|⟨g',cap,cur,rfl,_,hb,_⟩
 ·intro e;cases e
 ·intro e;injection e with e
  have e':g'=g:=e;subst e';rw [hg] at hb;cases hb
theorem gP.blk {w:World} {mb n:Nat} {G:ByteArray→Pu} (h:gP w mb n G):∃es clock,w.heap[mb]?=some (.map es clock):=by
 obtain⟨D,⟨es,clock,h1,_⟩,_⟩:=h;exact⟨es,clock,h1⟩
theorem PM.mpmb {w:World} {B mp mb n:Nat} {v:Value} {ks:List ByteArray} {G:ByteArray→Pu} (h:PM w B mp mb n v ks G):mp≠mb:=by
 obtain⟨es,clock,hb⟩:=h.map.blk;intro e;have:=h.blk;rw [e,hb] at this;cases this
theorem PM.below {w w':World} {B mp mb n:Nat} {v:Value} {ks:List ByteArray} {G:ByteArray→Pu} (h:PM w B mp mb n v ks G) (hb:Below w.heap.size w w'):PM w' B mp mb n v ks G:=by
 have hg:w.grownBy w' none:=⟨hb.os,hb.tape,hb.output,hb.size,fun k hk _=>hb.block k hk⟩;refine⟨?_,?_,?_,h.lop,h.lom⟩
 ·rw [hb.block _ (Fo.lt_of_blk h.blk)];exact h.blk
 ·refine h.row.kept hg ?_;exact acj
 ·exact h.map.kept (hb.block _ h.map.lt)
theorem PM.drewN {w:World} {B mp mb n q:Nat} {v:Value} {ks:List ByteArray} {G:ByteArray→Pu} (h:PM w B mp mb n v ks G):PM (w.drewN q) B mp mb n v ks G:=⟨h.blk,h.row,h.map,h.lop,h.lom⟩
theorem PM.turned {w w':World} {B mp mb n n':Nat} {v:Value} {ks:List ByteArray} {G G':ByteArray→Pu} (h:PM w B mp mb n v ks G) (hk:Keeps mb w w') (hm:gP w' mb n' G'):PM w' B mp mb n' v ks G':=by
 have hg:w.grownBy w' (some mb):=⟨hk.os,hk.tape,hk.output,hk.size,fun k hl hne=>hk.block k hl (fun e=>hne (by rw [e]))⟩;obtain⟨es,clock,hb⟩:=h.map.blk;refine⟨?_,?_,hm,h.lop,h.lom⟩
 ·rw [hk.block _ (Fo.lt_of_blk h.blk) h.mpmb];exact h.blk
 ·refine h.row.kept hg (.inr (uZ h.row hb))
theorem zu {w w':World} {B g:Nat} (hk:Keeps g w w') (hg:B≤g) (hB:B≤w.heap.size):Below B w w':=⟨hk.os,hk.tape,hk.output,hk.size,fun k hl=>hk.block k (by omega) (by omega)⟩
set_option maxHeartbeats 4000000
abbrev shv (dm df ds:Int):Value:= .agg #[.int .i64 dm,.int .i64 df,.int .i64 ds]
theorem xJ {w w1:World} {A B C:Obj} (hb:Below (((w.alloc A).alloc B).alloc C).heap.size (((w.alloc A).alloc B).alloc C) w1):
 w1.heap[w.heap.size]?=some A∧w1.heap[w.heap.size+1+1]?=some C∧Below w.heap.size w w1:=by
 have hs:(((w.alloc A).alloc B).alloc C).heap.size=w.heap.size+1+1+1:=by simp
 refine⟨?_,?_,((((Below.refl _ _).alloc (Nat.le_refl _) _).alloc (by simp) _).alloc (by simp;omega) _).trans (hb.mono (by omega))⟩
 ·rw [hb.block _ (by omega),Below.heap_alloc _ _ _ (by simp;omega),Below.heap_alloc _ _ _ (by simp)];exact heap_alloc_new w A
 ·rw [hb.block _ (by omega)];have h:=heap_alloc_new ((w.alloc A).alloc B) C;rwa [show((w.alloc A).alloc B).heap.size=w.heap.size+1+1 by simp] at h
theorem FZ (p:Pu) (dm df ds n:Int) (w:World) (hp:fT p=true) (h1: -1000000000≤dm*n∧dm*n≤1000000000) (h2: -1000000000≤df*n∧df*n≤1000000000) (h3: -1000000000≤ds*n∧ds*n≤1000000000)
 (hf:0≤p.f+df*n) (hs:0≤p.s+ds*n) (hok:fT (dY p dm df ds n)=true):
 Calls Tryz.prog 159 #[wY p,shv dm df ds,.int .i64 n] w fun e w'=>e= .returned (.tuple #[wY (dY p dm df ds n),.nilIface])∧Below w.heap.size w w':=by
 have HO:=hide (fun w1=>nD (dY p dm df ds n) true w1 hok);open ahW in exact adg
theorem yJ (p:Pu) (dm df ds n:Int) (E:Nat→Addr) (w:World) (hp:fT p=true) (h1: -1000000000≤dm*n∧dm*n≤1000000000) (h2: -1000000000≤df*n∧df*n≤1000000000) (h3: -1000000000≤ds*n∧ds*n≤1000000000)
 (hf:0≤p.f+df*n) (hs:0≤p.s+ds*n) (hok:fT (dY p dm df ds n)=false) (he:iw w E):
 Calls Tryz.prog 159 #[wY p,shv dm df ds,.int .i64 n] w fun e w'=>e= .returned (.tuple #[wY ⟨⟨#[]⟩,0,0,0⟩,qw (E 4)])∧Below w.heap.size w w':=by
 have HO:=hide (fun w1=>nD (dY p dm df ds n) false w1 hok);have HE:=hide he;open ahV in exact adg
theorem zT (p:Pu) (dm df ds n:Int) (E:Nat→Addr) (w:World) (hp:fT p=true) (h1: -1000000000≤dm*n∧dm*n≤1000000000) (h2: -1000000000≤df*n∧df*n≤1000000000) (h3: -1000000000≤ds*n∧ds*n≤1000000000)
 (hf:p.f+df*n < 0∨0≤p.f+df*n∧p.s+ds*n < 0) (he:iw w E):
 Calls Tryz.prog 159 #[wY p,shv dm df ds,.int .i64 n] w fun e w'=>e= .returned (.tuple #[wY ⟨⟨#[]⟩,0,0,0⟩,qw (E 3)])∧Below w.heap.size w w':=by
 have HE:=hide he;have hve:3 < w.heap.size:=World.block_lt_of_cell? _ _ (he.var 3 (by omega));open ahU in exact adg
end Go.Proofs.YtfmdndhliinhpaaGreatDoor
