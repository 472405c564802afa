/- Parts. -/
import Derived.Test.YtacgbldlonoaaaaGreatDoorRw11
namespace Go.Proofs.YtacgbldlonoaaaaGreatDoor
open Go.Proofs.Tryz
set_option maxHeartbeats 8000000
set_option maxRecDepth 100000
open Go.RowKit
open Mth
theorem rIn (x a b:Int) (r:Bool) (wc:World) (hb:decide (a<=x/\x<=b)=r):∀d os,Calls prog 63 #[.int .i64 x,.int .i64 a,.int .i64 b] (Sort.grow (redrawn wc d) os) λe w''=>e= .returned (.bool r)/\∃p:Regrown,w''=Sort.grow (redrawn wc p.d) p.os:=λ_ _=>
 Calls.regrown_of ((uI x a b r _ hb).mono λ_ _ ⟨he,hw⟩=>⟨he,hw▸Below.refl _ _⟩)
theorem aeI (s:ByteArray) (b:Bool) (wc:World) (hs:s.size<=maxLen) (hb:keyOk s.data.toList=b):∀d os,Calls prog 64 #[.string s] (Sort.grow (redrawn wc d) os) λe w''=>e= .returned (.bool b)/\∃p:Regrown,w''=Sort.grow (redrawn wc p.d) p.os:=λ_ _=>
 Calls.regrown_of ((nK s b _ hs hb).mono λ_ _ ⟨he,hw⟩=>⟨he,hw▸Below.refl _ _⟩)
theorem gP {w:World} {g:Nat} {v0 v1 v2 v3:Value} {t:TypeId} (h:w.heap[g]?=some (.cells #[v0,v1,v2,v3] t (0,0))):
 w.cell? ⟨g,0,none⟩=some v0/\w.cell? ⟨g,1,none⟩=some v1/\w.cell? ⟨g,2,none⟩=some v2/\w.cell? ⟨g,3,none⟩=some v3:=by
 have hc:∀i,w.cell? ⟨g,i,none⟩=#[v0,v1,v2,v3][i]?:=λi=>cell_of_row w g i _ t (0,0) h
 exact⟨hc 0,hc 1,hc 2,hc 3⟩
theorem ab1 (x:Int) (b:Bool) (w:World) (h:ru x=b):Calls prog 62 #[.int .i64 x] w λe w'=>e= .returned (.bool b)/\w=w':=by
 rw [<-h];exact sV x w
theorem Mth.ndOk_head (n:Nd):dY n=((dH n&&jo n.pu&&pJ n&&fV n.next&&decide (n.out.length<=40)&&ru n.old&&decide (n.reqs.length<=30))&&(iB (vN n) (λs t=>iQ s.i t.i) n.out&&iB (tH n) (λs t=>iQ s.no t.no) n.reqs)):=by
 unfold dY sZ iy;cases dH n<;>cases jo n.pu<;>cases pJ n<;>cases fV n.next<;>cases decide (n.out.length<=40)<;>cases ru n.old<;>cases decide (n.reqs.length<=30)<;>simp
theorem uU (n:Nd) (A:bC) (w:World) (hz:eY n 1048600) (ha:bQ w A n):
 Calls prog 19 #[fT n A] w (fF w (.bool (dY n))):=by
 have HA:=Hq ha;have HZ:=Hq hz;have Ob:=Hq (λw1 (hb:aY w w1)=>Yw n A w1 hz.k (ha.below hb).k);have HPU:=Hq (λw1 (hb:aY w w1)=>kZ A.p A.cp n.pu w1 hz.p (λp hp=>Nat.le_trans (hz.pk p hp) Aah) (ha.below hb).p);have HTO:=Hq (λw1 (hb:aY w w1)=>acU n A w1 hz.k hz.s hz.sk (ha.below hb).k (ha.below hb).s);have Nu:=Hq (λx b wc (hb:aY w wc) (h:dV n x=b)=>aij n A x b wc hz.k (ha.below hb).k h);have HOT:=Hq (fun(s:lJ)=>show vN n s=(decide (1<=s.i/\s.i<=n.next - 1)&&dV n s.t&&keyOk s.k.data.toList&&fV s.n) from rfl);have Oe:=Hq (fun(s:Rq)=>show tH n s=(decide (n.old+1<=s.no/\s.no<=1000000000)&&keyOk s.k.data.toList&&fV s.n&&decide (0<=s.s/\s.s<=2)) from rfl);have HD:=Hq (ndOk_head n);have lU:=Hq (heap_alloc_new w (.cells (dD n A) 30));generalize dH n=PL at *;generalize jo n.pu=PS at *;generalize pJ n=TD at *;generalize vN n=OT at *;generalize tH n=RQ at *;generalize dV n=NN at *;generalize dY n=TT at *;open aoM in exact yc
namespace Mth
instance:Inhabited Mg:=⟨⟨0,0,0,0,0,ByteArray.empty,0⟩⟩
abbrev lF (m:Mg):List Value:=[.int .i64 m.K,.int .i64 m.F,.int .i64 m.T,.int .i64 m.I,.int .i64 m.L,.string m.k,.int .i64 m.N]
theorem oW (m:Mg):(lF m).length=7:=rfl
theorem O4:∀(m:Mg),∀u∈lF m,u.oneCell'=true:=by
 intro m u hu;simp only[lF,List.mem_cons,List.not_mem_nil,or_false] at hu;rcases hu with rfl|rfl|rfl|rfl|rfl|rfl|rfl<;>rfl
def wm (l:List lJ) (t ab:Int):Int:=((l.find? λo=>decide (o.t=t)).map (·.i)).getD ab
def pU (n:Nd) (s:lJ):Mg:=⟨1,n.id,s.t,s.i,wm n.out s.t s.i,s.k,s.n⟩
def acC (n:Nd):List Mg:=if dY n then n.out.map (pU n) else[]
theorem Fg {α:Type} (f:α->Bool) (l:List α) (i:Nat) (hi:i < l.length) (h:(l.take i).find? f=none):(f l[i]=true->l.find? f=some l[i])/\(f l[i]=false->(l.take (i+1)).find? f=none):=by
 exact axw
theorem VE {l:List lJ} {t ab:Int} {k:Nat} (hk:k < l.length) (h:(l.take k).find? (λo=>decide (o.t=t))=none) (ht:(l[k]).t=t):wm l t ab=(l[k]).i:=by
 unfold wm;rw [(Fg _ l k hk h).1 (decide_eq_true ht)];rfl
theorem Qc {l:List lJ} {t:Int} {k:Nat} (hk:k < l.length) (h:(l.take k).find? (λo=>decide (o.t=t))=none) (ht:¬(l[k]).t=t):(l.take (k+1)).find? (λo=>decide (o.t=t))=none:=
 (Fg _ l k hk h).2 (decide_eq_false ht)
theorem ab8 {l:List lJ} {t ab:Int} (h:(l.take l.length).find? (λo=>decide (o.t=t))=none):wm l t ab=ab:=by
 rw [List.take_length] at h;unfold wm;rw [h];rfl
end Mth
theorem Vy:(Tryz.prog.info? 32).map (λi=>(i.zero,i.size,i.bytes))=some (some (.agg (cK 0 0 0 0 0 ByteArray.empty 0)),7,64):=Aab
theorem jY {w:World} {g:Nat} {v0 v1 v2 v3 v4 v5 v6:Value} {t:TypeId} (h:w.heap[g]?=some (.cells #[v0,v1,v2,v3,v4,v5,v6] t (0,0))):
 w.cell? ⟨g,0,none⟩=some v0/\w.cell? ⟨g,1,none⟩=some v1/\w.cell? ⟨g,2,none⟩=some v2/\w.cell? ⟨g,3,none⟩=some v3/\w.cell? ⟨g,4,none⟩=some v4/\w.cell? ⟨g,5,none⟩=some v5/\w.cell? ⟨g,6,none⟩=some v6:=by
 have hc:∀i,w.cell? ⟨g,i,none⟩=#[v0,v1,v2,v3,v4,v5,v6][i]?:=λi=>cell_of_row w g i _ t (0,0) h
 exact⟨hc 0,hc 1,hc 2,hc 3,hc 4,hc 5,hc 6⟩
theorem yP {w:World} {g:Nat} {a0 a1 a2 a3 a4 a5 a6 b0 b1 b2 b3 b4 b5 b6:Value} {t:TypeId} (h:w.heap[g]?=some (.cells #[a0,a1,a2,a3,a4,a5,a6] t (0,0))):
 (((((((w.setCell ⟨g,0,none⟩ b0).setCell ⟨g,1,none⟩ b1).setCell ⟨g,2,none⟩ b2).setCell ⟨g,3,none⟩ b3).setCell ⟨g,4,none⟩ b4).setCell ⟨g,5,none⟩ b5).setCell ⟨g,6,none⟩ b6).heap[g]?=some (.cells #[b0,b1,b2,b3,b4,b5,b6] t (0,0)):=by
 have h0:(w.setCell ⟨g,0,none⟩ b0).heap[g]?=some (.cells #[b0,a1,a2,a3,a4,a5,a6] t (0,0)):=aT h 0 b0;have h1:((w.setCell ⟨g,0,none⟩ b0).setCell ⟨g,1,none⟩ b1).heap[g]?=some (.cells #[b0,b1,a2,a3,a4,a5,a6] t (0,0)):=aT h0 1 b1;have h2:(((w.setCell ⟨g,0,none⟩ b0).setCell ⟨g,1,none⟩ b1).setCell ⟨g,2,none⟩ b2).heap[g]?=some (.cells #[b0,b1,b2,a3,a4,a5,a6] t (0,0)):=aT h1 2 b2;have h3:((((w.setCell ⟨g,0,none⟩ b0).setCell ⟨g,1,none⟩ b1).setCell ⟨g,2,none⟩ b2).setCell ⟨g,3,none⟩ b3).heap[g]?=some (.cells #[b0,b1,b2,b3,a4,a5,a6] t (0,0)):=aT h2 3 b3;have h4:(((((w.setCell ⟨g,0,none⟩ b0).setCell ⟨g,1,none⟩ b1).setCell ⟨g,2,none⟩ b2).setCell ⟨g,3,none⟩ b3).setCell ⟨g,4,none⟩ b4).heap[g]?=some (.cells #[b0,b1,b2,b3,b4,a5,a6] t (0,0)):=aT h3 4 b4;have h5:((((((w.setCell ⟨g,0,none⟩ b0).setCell ⟨g,1,none⟩ b1).setCell ⟨g,2,none⟩ b2).setCell ⟨g,3,none⟩ b3).setCell ⟨g,4,none⟩ b4).setCell ⟨g,5,none⟩ b5).heap[g]?=some (.cells #[b0,b1,b2,b3,b4,b5,a6] t (0,0)):=aT h4 5 b5;exact aT h5 6 b6
theorem uS {w:World} {g:Nat} {b0 b1 b2 b3 b4 b5 b6:Value}:aC [g] w (((((((w.setCell ⟨g,0,none⟩ b0).setCell ⟨g,1,none⟩ b1).setCell ⟨g,2,none⟩ b2).setCell ⟨g,3,none⟩ b3).setCell ⟨g,4,none⟩ b4).setCell ⟨g,5,none⟩ b5).setCell ⟨g,6,none⟩ b6):=
 ((((((aC.set b0).trans (aC.set b1)).trans (aC.set b2)).trans (aC.set b3)).trans (aC.set b4)).trans (aC.set b5)).trans (aC.set b6)
abbrev zm7:Array Value:=(cK 0 0 0 0 0 ⟨#[]⟩ 0)
theorem aeO (n:Nd) (A:bC) (t ab:Int) (w:World) (hl:n.out.length<=1048600) (ha:SentAt w A.o n.out):
 Calls Tryz.prog 127 #[fT n A,.int .i64 t,.int .i64 ab] w (fF w (.int .i64 (wm n.out t ab))):=by
 have HA:=Hq (GR.At.below ha (au w (.cells (dD n A) 30)));have hblk:=heap_alloc_new w (.cells (dD n A) 30);obtain⟨c0,c1,c2,c3,c4,c5,c6,c7,c8⟩:=nine hblk;have HLY:=Hq (λk hk h=> @VE n.out t ab k hk h);have yY:=Hq (λk hk h=> @Qc n.out t k hk h);have Ef:=Hq (@ab8 n.out t ab);clear ha hblk;generalize wm n.out t ab=LO at *;open aoO in exact yc
theorem JW (n:Nd) (A:bC) (s:lJ) (w:World) (hl:n.out.length<=1048600) (ha:SentAt w A.o n.out):
 Calls Tryz.prog 126 #[fT n A,ae8 s] w (fF w (qg (pU n s))):=by
 have HA:=Hq ha;have HLY:=Hq (λk hk h=> @VE n.out s.t s.i k hk h);have yY:=Hq (λk hk h=> @Qc n.out s.t k hk h);have Ef:=Hq (@ab8 n.out s.t s.i);have YV:Hid (pU n s=⟨1,n.id,s.t,s.i,wm n.out s.t s.i,s.k,s.n⟩):=rfl;obtain⟨hP,hR,hO,hB⟩:=K7 w (.cells (dD n A) 30) (.cells (fI s.i s.t s.k s.n) 95) (.cells zm7 32);have HP:=Hq hP;have HR:=Hq hR;have HO:=Hq hO;have HB:=Hq hB;clear ha hP hR hO hB;rw [ah YV];generalize wm n.out s.t s.i=LO at *;open aoN in exact yc
theorem CG {P:Program} (w:World) {ops:Array Oper} {o:Oper} {a:Act} {K:Act->World->Prop} {Q:Exit->Act->World->Prop} {E:Prop} (hgd:o.guard=none) (s x:Operand) (t:TypeId)
 (ho:o.op= .call {callee:= .builtin .append,args:=#[s,x],argTypes:=#[t,t]})
 (base:Nat) (e:TypeId) (i:TypeInfo) (z:Value) (size bytes:Nat) (ht:P.underlying t=some (.slice e)) (hi:P.info? e=some i) (hz:i.zero=some z)
 (hsize:i.size=size) (hby:i.bytes=bytes) (hzs:z.cells.size=size) (hsz:0 < size)
 (v:Value) (n:Nat) (xs:List Value) (hs:a.eval s=v) (hown:w.ownsRow base e size v n xs)
 (ad:Addr) (m c:Nat) (news:List Value) (hx:a.eval x= .slice (some ad) m c) (hl:news.length=m*size) (hnews:∀j u,news[j]?=some u->w.cell? (ad.add j)=some u) (h1:∀u∈news,u.oneCell'=true)
 (h63:n+m<=maxLen) (hbytes:(n+m)*bytes<=140737488355328) (hbase:base<=w.heap.size)
 (h:∀v' w',w'.ownsRow base e size v' (n+m) (xs++news)->w.grownBy w' v.ownBlock->(v'= .slice none 0 0↔v= .slice none 0 0/\m=0)->K (a.put o.dst v') w'):
 if Region.wanted o (yielded ops a.tmps)=true then Oper.wp P o a w K Q else E:=by
 exact axF
theorem Ll {w w':World} {B:Nat} {row:Option Nat} (hk:w.grownBy w' row) (hg:∀k,row=some k->B<=k) (hB:B<=w.heap.size):Below B w w':=⟨hk.os,hk.tape,hk.output,hk.size,λk hl=>hk.block k Aaa (λe=>by have:=hg k e.symm;omega)⟩
theorem GR.At.heap {α:Type} {enc:α->List Value} {sz:Nat} {w w1:World} {a:Option Addr} {l:List α} (h:GR.At enc sz w a l) (e:w1.heap=w.heap):GR.At enc sz w1 a l:=λi hi=>by
 obtain⟨g,off,e0,hg,hc⟩:=h i hi;exact⟨g,off,e0,by rw [e];exact hg,λj hj=>(World.cell?_of_block (w:=w) Aao).trans (hc j hj)⟩
def Bv (w:World) (L:List Mg) (e:Ending) (w':World):Prop:=∃a c,e= .returned (.slice a L.length c)/\∃g,GR.W lF 7 w' a g L/\(∀x∈fp g L,w.heap.size<=x/\x < w'.heap.size)/\aY w w'
theorem M8 (n:Nd) (A:bC) (s:lJ) (w:World) (hl:n.out.length<=1048600) (ha:SentAt w A.o n.out):
 Calls Tryz.prog 51 #[fT n A,ae8 s] w (fF w (qg (pU n s))):=by
 obtain⟨hP,hR,hO,hB⟩:=K7 w (.cells (dD n A) 30) (.cells (fI s.i s.t s.k s.n) 95) (.cells zm7 32);have YV:Hid (pU n s=⟨1,n.id,s.t,s.i,wm n.out s.t s.i,s.k,s.n⟩):=rfl;have HLW:=Hq (λW (hb:aY w W) w1 (h:w1.heap=W.heap)=>aeO n A s.t s.i w1 hl (GR.At.heap (GR.At.below ha hb) h));rw [ah YV];generalize wm n.out s.t s.i=LO at *;open aoP in exact yc
structure Rw (w:World) (bs:List (Nat×Obj)) (ns:List (bC×Nd)) (W:World):Prop where
 bel:aY w W
 own:∀x∈bs,W.heap[x.1]?=some x.2
 nod:∀x∈ns,bQ W x.1 x.2
section
variable {w W W':World} {bs:List (Nat×Obj)} {ns:List (bC×Nd)}
theorem Rw.start (hb:aY w W):Rw w [] [] W:=⟨hb,λ_ h=>by simp at h,λ_ h=>by simp at h⟩
theorem Rw.step (h:Rw w bs ns W) (hb:aY W W'):Rw w bs ns W':=⟨h.bel.trans (hb.mono h.bel.size),λx hx=>ay (h.own x hx) hb,λx hx=>(h.nod x hx).below hb⟩
theorem Rw.addB {o:Obj} (h:Rw w bs ns W) (hW:W'=W.alloc o):Rw w ((W.heap.size,o)::bs) ns W':=by
 subst hW;have h2:=h.step (au W o)
 exact⟨h2.bel,λx hx=>by
  rcases List.mem_cons.1 hx with rfl|hx
  .exact heap_alloc_new W o
  .exact h2.own x hx,h2.nod⟩
theorem Rw.addN {A:bC} {n:Nd} (h:Rw w bs ns W) (ha:bQ W A n):Rw w bs ((A,n)::ns) W:=⟨h.bel,h.own,λx hx=>by
 rcases List.mem_cons.1 hx with rfl|hx
 .exact ha
 .exact h.nod x hx⟩
theorem Rw.at (h:Rw w bs ns W) (i:Nat) {g:Nat} {o:Obj} (e:bs[i]?=some (g,o)):W.heap[g]?=some o:=h.own (g,o) (List.mem_of_getElem? e)
theorem Rw.nd (h:Rw w bs ns W) (i:Nat) {A:bC} {n:Nd} (e:ns[i]?=some (A,n)):bQ W A n:=h.nod (A,n) (List.mem_of_getElem? e)
end
end Go.Proofs.YtacgbldlonoaaaaGreatDoor
