/- Parts. -/
import Derived.Test.YtdlokncalhopoaaGreatPy10
import Derived.Test.YtdlokncalhopoaaGreatPy5
import Derived.Test.YtdlokncalhopoaaGreatPy15
import Derived.Test.YtdlokncalhopoaaGreatPy7
import Derived.Test.YtdlokncalhopoaaGreatPy12
import Derived.Test.YtdlokncalhopoaaGreatPy16
import Derived.Test.YtdlokncalhopoaaGreatPy11
import Derived.Test.YtdlokncalhopoaaGreatPy1
import Derived.Test.YtdlokncalhopoaaGreatPy2
import Derived.Deep.AppendLies
import Derived.OneCell
import Derived.Laws.AppendOwnNone
import Derived.Maps.AppendAt
import Derived.Laws.OwnMore
import Derived.Lib.AppendZeros
namespace Go.Proofs.YtdlokncalhopoaaGreat
open Go.RowKit
open Mth
namespace Mth
def nnode (id par:Int) (kids fs:List Int):Nd:=⟨id,par,kids,1,[],[],fs.map (fun x=>⟨x,1,[]⟩),0,[]⟩
def zeroNd:Nd:=⟨0,0,[],0,[],[],[],0,[]⟩
def newN (id par:Int) (kids:List Int):Nd×Bool:=if placeB (nnode id par kids []) then(nnode id par kids (srt (nbrs (nnode id par kids []))),true) else(zeroNd,false)
theorem place_new (id par:Int) (kids fs:List Int):placeB (nnode id par kids fs)=placeB (nnode id par kids []):=rfl
theorem nbrs_new (id par:Int) (kids fs:List Int):nbrs (nnode id par kids fs)=nbrs (nnode id par kids []):=rfl
theorem ok_new (id par:Int) (kids fs:List Int) (h:placeB (nnode id par kids [])=true) (hf:fs=srt (nbrs (nnode id par kids []))):ndOk (nnode id par kids fs)=true:=by
 have hp:placeB (nnode id par kids fs)=true:=h
 have hm:(nnode id par kids fs).seen.map (·.f)=srt (nbrs (nnode id par kids fs)):=by
  rw [nbrs_new,←hf]
  simp[nnode,Function.comp_def]
 have ha:(nnode id par kids fs).seen.all snB=true:=by
  rw [List.all_eq_true]
  intro s hs
  obtain⟨x,_,rfl⟩:=List.mem_map.1 hs
  rfl
 unfold ndOk
 rw [hp,told_eq hp,decide_eq_true hm,ha]
 rfl
theorem ok_not (id par:Int) (kids fs:List Int) (h:placeB (nnode id par kids [])=false):ndOk (nnode id par kids fs)=false:=by
 unfold ndOk
 rw [place_new,h]
 rfl
def nearUp (n:Nd) (k:Nat):List Int:=(upTo k).filter (nearB n)
theorem upTo_succ (k:Nat):upTo (k+1)=upTo k++[(k:Int)]:=by
 unfold upTo
 rw [List.range_succ,List.map_append]
 rfl
theorem nearUp_succ (n:Nd) (k:Nat):nearUp n (k+1)=if nearB n k then nearUp n k++[(k:Int)] else nearUp n k:=by
 unfold nearUp
 rw [upTo_succ,List.filter_append,List.filter_cons]
 split<;>simp
theorem near_all {n:Nd} (h:placeB n=true):nearUp n 30=srt (nbrs n):=by
 have hk:=place_kids h
 have hp:n.par≤29:=by
  unfold placeB at h
  simp only[Bool.and_eq_true] at h
  exact(of_decide_eq_true h.1.1.1.2).2
 refine(asc_eq _ _ (srt_asc (nbrs_nodup h)) ((upTo_asc 30).sublist List.filter_sublist) ?_ ?_).symm
 ·intro x hx
  rw [srt_mem] at hx
  (try unfold nearUp)
  rw [List.mem_filter]
  refine⟨?_,(near_iff h x).2 hx⟩
  rw [upTo_mem]
  unfold nbrs at hx
  rcases List.mem_append.1 hx with hx|hx
  ·have:=hk.1 x hx
   unfold kidB ndB at this
   simp only[Bool.and_eq_true,decide_eq_true_eq] at this
   omega
  ·split at hx
   ·simp at hx
   ·have:x=n.par:=by simpa using hx
    omega
 ·refine asc_le _ _ ((upTo_asc 30).sublist List.filter_sublist) (srt_asc (nbrs_nodup h)) ?_
  intro x hx
  (try unfold nearUp at hx)
  rw [List.mem_filter] at hx
  rw [srt_mem]
  exact(near_iff h x).1 hx.2
theorem new_yes {id par:Int} {kids fs:List Int} (h:placeB (nnode id par kids [])=true) (hf:fs=srt (nbrs (nnode id par kids []))):newN id par kids=(nnode id par kids fs,true):=by
 unfold newN
 rw [if_pos h,hf]
theorem new_no {id par:Int} {kids:List Int} (h:placeB (nnode id par kids [])=false):newN id par kids=(zeroNd,false):=by
 unfold newN
 rw [if_neg (by rw [h];simp)]
end Mth
def r3of (x:Int):R3:=⟨x,1,.slice none 0 0⟩
abbrev nnc (id par:Int) (kv v:Value):Array Value:=#[.int .i64 id,.int .i64 par,kv,.int .i64 1,.slice none 0 0,.slice none 0 0,v,.int .i64 0,.slice none 0 0]
structure NN (w2 wr:World) (nb:Nat) (id par:Int) (kv v:Value) (fs:List Int):Prop where
 keep:KeepsL [nb] w2 wr
 blk:wr.heap[nb]?=some (.cells (nnc id par kv v) 30 (0,0))
 own:wr.ownsRow w2.heap.size 71 3 v fs.length (GR.flat encR3 (fs.map r3of))
 lt:nb < w2.heap.size
theorem NN.step {w2 wr w':World} {nb:Nat} {id par:Int} {kv v:Value} {fs:List Int} (h:NN w2 wr nb id par kv v fs) (hb:Below wr.heap.size wr w'):NN w2 w' nb id par kv v fs:=
 ⟨h.keep.trans (KeepsL.of_below hb),obj_step h.blk hb,GR.own_below h.own hb,h.lt⟩
theorem NN.app {w2 wr w6:World} {nb:Nat} {id par:Int} {kv v v':Value} {fs:List Int} {o:Obj} (h:NN w2 wr nb id par kv v fs) (x:Int)
 (hown:w6.ownsRow w2.heap.size 71 3 v' (fs.length+1) (GR.flat encR3 (fs.map r3of)++encR3 (r3of x))) (hg:(wr.alloc o).grownBy w6 v.ownBlock):
 NN w2 (w6.setCell ⟨nb,6,none⟩ v') nb id par kv v' (fs++[x]):=by
 have hvb:∀k,v.ownBlock=some k→w2.heap.size≤k:=fun k hk=>(h.own.lt k hk).1
 have hlt:=h.lt
 have hsz:=h.keep.size
 have hblk6:w6.heap[nb]?=some (.cells (nnc id par kv v) 30 (0,0)):=by
  rw [hg.block nb (by simp;omega) (fun e=>by have:=hvb nb e.symm;omega),Below.heap_alloc _ _ _ (by omega)]
  exact h.blk
 have hne:∀k,v'.ownBlock=some k→k≠nb:=fun k hk=>by have:=(hown.lt k hk).1;omega
 refine⟨?_,?_,?_,hlt⟩
 ·refine⟨hg.os.trans h.keep.os,hg.tape.trans h.keep.tape,hg.output.trans h.keep.output,?_,fun k hk hkn=>?_⟩
  ·have:=hg.size
   simp[World.setCell] at this ⊢
   omega
  ·have hkn':k≠nb:=by simpa using hkn
   rw [Below.heap_setCell _ _ _ _ hkn',hg.block k (by simp;omega) (fun e=>by have:=hvb k e.symm;omega),Below.heap_alloc _ _ _ (by omega)]
   exact h.keep.block k hk hkn
 ·exact blk_setO hblk6 6 v'
 ·have e1:(fs++[x]).length=fs.length+1:=by simp
  have e2:GR.flat encR3 ((fs++[x]).map r3of)=GR.flat encR3 (fs.map r3of)++encR3 (r3of x):=by rw [List.map_append,GR.flat_append];simp[GR.flat]
  rw [e1,e2]
  refine hown.kept (row:=some nb) ⟨rfl,rfl,rfl,by simp[World.setCell],fun k _ hk=>Below.heap_setCell _ _ _ _ (fun e=>hk (by rw [e]))⟩ ?_
  cases hv:v'.ownBlock with
  |none=>exact .inl rfl
  |some k=>exact .inr (fun e=>hne k hv (by injection e))
theorem r3_one (x:Int):∀u∈encR3 (r3of x),u.oneCell'=true:=by
 intro u hu
 simp only[encR3,r3of,List.mem_cons,List.not_mem_nil,or_false] at hu
 rcases hu with rfl|rfl|rfl<;>rfl
theorem SeenW.new {w:World} {B:Nat} {v:Value} {fs:List Int} (h:w.ownsRow B 71 3 v fs.length (GR.flat encR3 (fs.map r3of))):∃a c g,v= .slice a fs.length c∧SeenW w a g (fun _=>0) (fs.map (fun x=>⟨x,1,[]⟩))∧(∀x∈fp g fs,B≤x∧x < w.heap.size):=by
 have h':w.ownsRow B 71 3 v (fs.map r3of).length (GR.flat encR3 (fs.map r3of)):=by rw [List.length_map];exact h
 obtain⟨a,c,g,e,hW,hr,_⟩:=GR.W.of_own encR3_length h'
 refine⟨a,c,g,by rw [e,List.length_map],⟨fs.map r3of,hW,by simp,fun i hi=>?_⟩,fun x hx=>hr x ?_⟩
 ·refine⟨none,0,?_,?_⟩
  ·have hi':i < fs.length:=by simpa using hi
   simp[hi',r3of]
  ·simp only[List.getElem_map]
   exact GR.W.nil
 ·have:=of_fp hx
  rw [this.1]
  exact fp_mem (by simpa using this.2)
theorem fpI_new (I:Nat→Nat) (fs:List Int):fpI I (fs.map (fun x=>(⟨x,1,[]⟩:Sn)))=[]:=by
 apply List.eq_nil_iff_forall_not_mem.2
 intro x hx
 obtain⟨i,hi,_,hp⟩:=of_fpI hx
 simp at hp
theorem NodeW.new {w:World} {B B2:Nat} {id par:Int} {kv v:Value} {kids fs:List Int} (hk:w.ownsRow B 3 1 kv kids.length (GR.flat encNum kids)) (hkl:∀x,kv.ownBlock=some x→x < B2) (hs:w.ownsRow B2 71 3 v fs.length (GR.flat encR3 (fs.map r3of))) (hB:B≤B2):
 ∃A G,Value.agg (nnc id par kv v)=ndv (nnode id par kids fs) A∧NodeW w A G (nnode id par kids fs)∧G.Sep (nnode id par kids fs) B w.heap.size:=by
 obtain⟨a1,c1,g1,rfl,hW1,hr1,ho1⟩:=GR.W.of_own encNum_length hk
 obtain⟨a2,c2,g2,rfl,hW2,hr2⟩:=SeenW.new hs
 have hall:∀x,x∈Blks.all ⟨g1,0,0,g2,0,fun _=>0⟩ (nnode id par kids fs)→x∈fp g1 kids∨x∈fp g2 fs:=fun x hx=>by
  rcases Blks.mem_all.1 hx with h|h|h|h|h|h
  ·exact .inl h
  ·simp[nnode,fp] at h
  ·simp[nnode,fp] at h
  ·right
   rw [fp_len (l':=fs) (by simp[nnode])] at h
   exact h
  ·simp only[nnode] at h
   rw [fpI_new] at h
   simp at h
  ·simp[nnode,fp] at h
 refine⟨⟨a1,none,none,a2,none,c1,0,0,c2,0⟩,⟨g1,0,0,g2,0,fun _=>0⟩,by simp[nnc,ndv,ndc,nnode],⟨hW1,GR.W.nil,GR.W.nil,hW2,GR.W.nil⟩,⟨?_,fun x hx=>?_⟩⟩
 ·have e:Blks.all ⟨g1,0,0,g2,0,fun _=>0⟩ (nnode id par kids fs)=fp g1 kids++fp g2 fs:=by
   unfold Blks.all
   simp only[nnode]
   rw [fpI_new,fp_len (l:=fs.map _) (l':=fs) (by simp)]
   simp[fp]
  rw [e,List.nodup_append]
  refine⟨fp_nodup _ _,fp_nodup _ _,fun a ha b hb=>?_⟩
  have h1:=hkl a (ho1 a ha)
  have h2:=(hr2 b hb).1
  omega
 ·rcases hall x hx with h|h
  ·exact hr1 x h
  ·have:=hr2 x h
   omega
theorem NodeW.zero {w:World}:NodeW w ⟨none,none,none,none,none,0,0,0,0,0⟩ ⟨0,0,0,0,0,fun _=>0⟩ zeroNd∧Blks.Sep ⟨0,0,0,0,0,fun _=>0⟩ zeroNd w.heap.size w.heap.size:=
 ⟨⟨GR.W.nil,GR.W.nil,GR.W.nil,⟨[],GR.W.nil,rfl,fun i hi=>by simp[zeroNd] at hi⟩,GR.W.nil⟩,⟨by simp[Blks.all,zeroNd,fp,fpI],fun x hx=>by simp[Blks.all,zeroNd,fp,fpI] at hx⟩⟩
abbrev zc9:Array Value:=#[.int .i64 0,.int .i64 0,.slice none 0 0,.int .i64 0,.slice none 0 0,.slice none 0 0,.slice none 0 0,.int .i64 0,.slice none 0 0]
theorem nodeAt_new {w:World} {B B2:Nat} {id par:Int} {kv v:Value} {kids fs:List Int} (hk:w.ownsRow B 3 1 kv kids.length (GR.flat encNum kids)) (hs:w.ownsRow B2 71 3 v fs.length (GR.flat encR3 (fs.map r3of))):∃A,Value.agg (nnc id par kv v)=ndv (nnode id par kids fs) A∧NodeAt w A (nnode id par kids fs):=by
 obtain⟨a1,c1,g1,rfl,hW1,_⟩:=GR.W.of_own encNum_length hk
 obtain⟨a2,c2,g2,rfl,hW2,_⟩:=SeenW.new hs
 exact⟨⟨a1,none,none,a2,none,c1,0,0,c2,0⟩,by simp[nnc,ndv,ndc,nnode],⟨hW1.at,GR.at_nil _ _,GR.at_nil _ _,hW2.at,GR.at_nil _ _⟩⟩
theorem mem_one {x g:Nat} (h:x∈[g]):x=g:=by simpa using h
theorem sz_new {id par:Int} {kids fs:List Int} (h1:kids.length≤1048600) (h2:fs.length≤1048600):NdSz (nnode id par kids fs) 1048600:=
 ⟨h1,by simp[nnode],by simp[nnode],by simpa [nnode] using h2,by simp[nnode],fun x hx=>by simp[nnode] at hx,fun x hx=>by simp[nnode] at hx,fun x hx=>by simp only[nnode,List.mem_map] at hx;obtain⟨y,_,rfl⟩:=hx;simp,fun x hx=>by simp[nnode] at hx⟩
theorem keepsN {nb:Nat} {X Y:World} {i:Nat} {v:Value} (hb:Below X.heap.size X Y):KeepsL [nb] X (Y.setCell ⟨nb,i,none⟩ v):=(KeepsL.of_below hb).trans (KeepsL.set v)
theorem belowN {w Y:World} {nb i:Nat} {v:Value} (hn:w.heap.size≤nb) (hb:Below w.heap.size w Y):Below w.heap.size w (Y.setCell ⟨nb,i,none⟩ v):=hb.setCell (p:=⟨nb,i,none⟩) hn v
theorem setN9 {Y:World} {nb i:Nat} {v:Value} {cs:Array Value} (h:Y.heap[nb]?=some (.cells cs 30 (0,0))):(Y.setCell ⟨nb,i,none⟩ v).heap[nb]?=some (.cells (cs.setIfInBounds i v) 30 (0,0)):=blk_setO h i v
theorem own_keepsL {F:List Nat} {Y W:World} {B:Nat} {t:TypeId} {sz k:Nat} {v:Value} {xs:List Value} (h:Y.ownsRow B t sz v k xs) (hk:KeepsL F Y W) (hd:∀x∈F,x < B):W.ownsRow B t sz v k xs:=by
 refine⟨h.1,?_⟩
 rcases h.2 with hn|⟨g,cap,cur,rfl,hb,hgg,rest⟩
 ·exact .inl hn
 ·exact .inr ⟨g,cap,cur,rfl,hb,hk.obj hgg (fun hm=>by have:=hd g hm;omega),rest⟩
theorem flat_ids (u:Value):∀(l:List R3) (i:Nat) (hi:i < l.length),(GR.flat encR3 l).set (i*3+2) u=GR.flat encR3 (l.set i ⟨l[i].f,l[i].l,u⟩):=by
 intro l
 induction l with
 |nil=>intro i hi;simp at hi
 |cons x r ih=>
  intro i hi
  cases i with
  |zero=>rfl
  |succ i=>
   have hi2:i < r.length:=by simpa using hi
   have h1:=ih i hi2
   show(encR3 x++GR.flat encR3 r).set ((i+1)*3+2) u=encR3 x++GR.flat encR3 (r.set i ⟨r[i].f,r[i].l,u⟩)
   rw [←h1,List.set_append_right _ _ (by show 3≤_;omega)]
   congr 2
   show(i+1)*3+2 - 3=_
   omega
structure SC (w W5 wr:World) (B k:Nat) (l:List Sn) (T T2:List R3) (I:Nat→Nat) (a:Option Addr) (cs:Nat):Prop where
 len:T2.length=l.length
 own:wr.ownsRow B 71 3 (.slice a l.length cs) l.length (GR.flat encR3 T2)
 dn:∀i (hi:i < l.length),i < k→∃b c,T2[i]?=some ⟨l[i].f,l[i].l,.slice b l[i].ids.length c⟩∧GR.W encNum 1 wr b (I i) l[i].ids∧∀x∈fp (I i) l[i].ids,W5.heap.size≤x∧x < wr.heap.size
 up:∀i,k≤i→T2[i]?=T[i]?
 nd:∀i j (hi:i < l.length) (hj:j < l.length),i < j→j < k→0 < l[i].ids.length→0 < l[j].ids.length→I i≠I j
 gr:W5.grownBy wr (Value.slice a l.length cs).ownBlock
theorem SC.next {w W5 wr x:World} {B k:Nat} {l:List Sn} {T T2:List R3} {I:Nat→Nat} {a:Option Addr} {cs g gi cc:Nat} {b:Option Addr} (h:SC w W5 wr B k l T T2 I a cs) (hk:k < l.length) (ha:a=some ⟨g,0,none⟩) (hT:∃b c,T[k]?=some ⟨l[k].f,l[k].l,.slice b l[k].ids.length c⟩) (hx:Below wr.heap.size wr x) (hg5:g < W5.heap.size)
 (hi:GR.W encNum 1 x b gi l[k].ids) (hlt:∀z∈fp gi l[k].ids,wr.heap.size≤z∧z < x.heap.size):SC w W5 (x.setCell ⟨g,k*3+2,none⟩ (.slice b l[k].ids.length cc)) B (k+1) l T (T2.set k ⟨l[k].f,l[k].l,.slice b l[k].ids.length cc⟩) (fun i=>if i=k then gi else I i) a cs:=by
 subst ha
 have hk2:k < T2.length:=by rw [h.len];exact hk
 have hTk:∃b c,T2[k]=⟨l[k].f,l[k].l,.slice b l[k].ids.length c⟩:=by
  obtain⟨b',c',e⟩:=hT
  refine⟨b',c',?_⟩
  have:=h.up k (Nat.le_refl _)
  rw [List.getElem?_eq_getElem hk2,e] at this
  exact Option.some.inj this
 have hgs:x.heap.size=(x.setCell ⟨g,k*3+2,none⟩ (.slice b l[k].ids.length cc)).heap.size:=by simp[World.setCell]
 have hkp:KeepsL [g] x (x.setCell ⟨g,k*3+2,none⟩ (.slice b l[k].ids.length cc)):=KeepsL.set _
 have hws:=h.gr.size
 have hxs:=hx.size
 refine⟨by rw [List.length_set];exact h.len,?_,fun i hi' hik=>?_,fun i hik=>?_,fun i j hi' hj hij hjk h1 h2=>?_,?_⟩
 ·have ho:=GR.own_below h.own hx
  have hst:=(ho.stored (k*3+2) (.slice b l[k].ids.length cc)).1
  rw [flat_ids _ T2 k hk2] at hst
  obtain⟨b',c',e⟩:=hTk
  rw [e] at hst
  exact hst
 ·by_cases e:i=k
  ·subst e
   refine⟨b,cc,by rw [List.getElem?_set_self hk2],?_,?_⟩
   ·rw [if_pos rfl]
    exact hi.keeps hkp (fun z hz hm=>by have:=(hlt z hz).1;have:z=g:=(by simpa using hm);omega)
   ·rw [if_pos rfl]
    exact fun z hz=>⟨by have:=(hlt z hz).1;omega,by rw [←hgs];exact(hlt z hz).2⟩
  ·obtain⟨b',c',e1,e2,e3⟩:=h.dn i hi' (by omega)
   refine⟨b',c',by rw [List.getElem?_set_ne (by omega)];exact e1,?_,?_⟩
   ·rw [if_neg e]
    exact(e2.below hx).keeps hkp (fun z hz hm=>by have:=(e3 z hz).1;have:z=g:=(by simpa using hm);omega)
   ·rw [if_neg e]
    exact fun z hz=>⟨(e3 z hz).1,by rw [←hgs];have:=(e3 z hz).2;omega⟩
 ·rw [List.getElem?_set_ne (by omega)]
  exact h.up i (by omega)
 ·by_cases ej:j=k
  ·subst ej
   rw [if_neg (by omega),if_pos rfl]
   obtain⟨_,_,_,_,e3⟩:=h.dn i hi' (by omega)
   have q1:=(e3 (I i) (fp_mem h1)).2
   have q2:=(hlt gi (fp_mem h2)).1
   omega
  ·rw [if_neg (by omega),if_neg ej]
   exact h.nd i j hi' hj hij (by omega) h1 h2
 ·refine h.gr.andThen (row':=some g) ⟨hx.os,hx.tape,hx.output,by rw [←hgs];exact hx.size,fun z hz hne=>?_⟩ (fun j hj=> .inr (by cases hj;rfl))
  rw [Below.heap_setCell _ _ _ _ (fun e=>hne (by rw [e]))]
  exact hx.block z hz
theorem SC.done {w W5 wr:World} {B:Nat} {l:List Sn} {T T2:List R3} {I:Nat→Nat} {a:Option Addr} {cs:Nat} (h:SC w W5 wr B l.length l T T2 I a cs):∃g,SeenW wr a g I l∧(∀x∈fp g l,B≤x∧(Value.slice a l.length cs).ownBlock=some x)∧(∀x∈fpI I l,W5.heap.size≤x∧x < wr.heap.size)∧(fpI I l).Nodup:=by
 have ho:=h.own
 rw [←h.len] at ho
 obtain⟨a',c',g,e,hW,hg,hgo⟩:=GR.W.of_own (enc:=encR3) encR3_length ho
 cases e
 rw [h.len] at hgo
 have hfe:∀x,x∈fp g l→x∈fp g T2:=fun x hx=>by have:=of_fp hx;rw [this.1];exact fp_mem (by rw [h.len];exact this.2)
 refine⟨g,⟨T2,hW,h.len,fun i hi=>?_⟩,fun x hx=>⟨(hg x (hfe x hx)).1,hgo x (hfe x hx)⟩,fun x hx=>?_,?_⟩
 ·obtain⟨b,c,e1,e2,_⟩:=h.dn i hi hi
  exact⟨b,c,e1,e2⟩
 ·obtain⟨i,hi,rfl,hpos⟩:=of_fpI hx
  obtain⟨_,_,_,_,e3⟩:=h.dn i hi hi
  exact e3 _ (fp_mem hpos)
 ·rw [fpI_nodup]
  exact fun i j hi hj hij h1 h2=>h.nd i j hi hj hij hj h1 h2
theorem SC.below {w W5 wr:World} {B k:Nat} {l:List Sn} {T T2:List R3} {I:Nat→Nat} {a:Option Addr} {cs:Nat} (h:SC w W5 wr B k l T T2 I a cs) {C:Nat} (hC:C≤B) (hs:C≤W5.heap.size):Below C W5 wr:=
 ⟨h.gr.os,h.gr.tape,h.gr.output,h.gr.size,fun x hx=>h.gr.block x (by omega) (fun e=>by have:=(h.own.lt x e.symm).1;omega)⟩
theorem own_blocks {w w':World} {B:Nat} {t:TypeId} {sz k:Nat} {v:Value} {xs:List Value} (h:w.ownsRow B t sz v k xs) (hb:∀x,v.ownBlock=some x→w'.heap[x]?=w.heap[x]?):w'.ownsRow B t sz v k xs:=by
 refine⟨h.1,?_⟩
 rcases h.2 with hn|⟨g,cap,cur,rfl,hB,hgg,rest⟩
 ·exact .inl hn
 ·exact .inr ⟨g,cap,cur,rfl,hB,(hb g rfl).trans hgg,rest⟩
theorem own_base {w:World} {B B':Nat} {t:TypeId} {sz k:Nat} {v:Value} {xs:List Value} (h:w.ownsRow B t sz v k xs) (hB:B'≤B):w.ownsRow B' t sz v k xs:=by
 refine⟨h.1,?_⟩
 rcases h.2 with hn|⟨g,cap,cur,rfl,hBg,rest⟩
 ·exact .inl hn
 ·exact .inr ⟨g,cap,cur,rfl,by omega,rest⟩
theorem NO.base {w:World} {B B':Nat} {n:Nd} {A:Ads} {G:Blks} {c:Nat→Nat} (h:NO w B n A G c) (hB:B'≤B):NO w B' n A G c:=
 ⟨h.k,h.p,own_base h.o hB,h.s,own_base h.r hB,fun x hx=>h.lo x (by omega),h.ck,h.cp,h.co,h.c4,h.ci,h.cr,h.ni⟩
theorem allocs3E (w:World) (a b d:Obj):(((w.alloc a).alloc b).alloc d).heap[w.heap.size]?=some a∧(((w.alloc a).alloc b).alloc d).heap[w.heap.size+1]?=some b∧(((w.alloc a).alloc b).alloc d).heap[w.heap.size+2]?=some d∧Below w.heap.size w (((w.alloc a).alloc b).alloc d):=allocs3 w a b d
theorem run_append_where {P:Program} (w:World) (base:Nat) (t ty e:TypeId) (i:TypeInfo) (z:Value) (size bytes:Nat) (ht:P.underlying t=some (.slice e)) (hi:P.info? e=some i) (hz:i.zero=some z)
 (hsize:i.size=size) (hby:i.bytes=bytes) (hzs:z.cells.size=size) (hsz:0 < size)
 (v:Value) (n:Nat) (xs:List Value) (hown:w.ownsRow base e size v n xs)
 (a:Addr) (m c:Nat) (news:List Value) (hl:news.length=m*size) (hnews:∀j u,news[j]?=some u→w.cell? (a.add j)=some u) (h1:∀u∈news,u.oneCell'=true)
 (h63:n+m≤maxLen) (hbytes:(n+m)*bytes≤140737488355328) (hbase:base≤w.heap.size):
 ∃v' w',(Builtin.append_ #[t,t] ty #[v,.slice (some a) m c]).run P w= .ok v' w'∧w'.ownsRow base e size v' (n+m) (xs++news)∧w.grownBy w' v.ownBlock∧
  ∀x,v'.ownBlock=some x→v.ownBlock=some x∨w.heap.size≤x:=by
 obtain⟨v',w',hr,ho,hg,_⟩:=run_append_own w base t ty e i z size bytes ht hi hz hsize hby hzs hsz v n xs hown a m c news hl hnews h1 h63 hbytes hbase
 refine⟨v',w',hr,ho,hg,fun x hx=>?_⟩
 have hsmall:n+m≤9223372036854775807:=by simp only[maxLen] at h63;omega
 rcases hown.2 with⟨rfl,rfl⟩|⟨g,cap,cur,rfl,hbg,hgg,hnc,hcm,hcs,htake⟩
 ·have hxs:xs=[]:=List.eq_nil_of_length_eq_zero (by simpa using hown.1)
  subst hxs
  obtain⟨v2,w2,hr2,ho2,_,_⟩:=run_append_own w w.heap.size t ty e i z size bytes ht hi hz hsize hby hzs hsz (.slice none 0 0) 0 [] (World.ownsRow_nil w _ e size) a m c news hl hnews h1 h63 hbytes (Nat.le_refl _)
  have he:=hr.symm.trans hr2
  simp only[Result.ok.injEq] at he
  obtain⟨rfl,rfl⟩:=he
  exact .inr (ho2.lt x hx).1
 ·subst hsize
  subst hby
  by_cases hroom:n+m≤cap
  ·have hfit:n*i.size+news.length≤cur.size:=by rw [hl,hcs,←Nat.add_mul];exact Nat.mul_le_mul_right _ hroom
   have hr2:=run_append_room (P:=P) w t ty e i ht hi g n cap cur hgg a m c news hl hnews h1 hroom hfit
   have he:=hr.symm.trans hr2
   simp only[Result.ok.injEq] at he
   obtain⟨rfl,_⟩:=he
   exact .inl hx
  ·have holds:∀j u,xs[j]?=some u→w.cell? ((⟨g,0,none⟩:Addr).add j)=some u:=hown.cells (g:=g) rfl
   have hr2:=run_append_grow (P:=P) w t ty e i z ht hi hz ⟨g,0,none⟩ n cap xs hown.1 holds a m c news hl hnews (by omega) (by omega) (growslice_fits (by omega) hbytes)
   have he:=hr.symm.trans hr2
   simp only[Result.ok.injEq] at he
   obtain⟨rfl,_⟩:=he
   have:w.heap.size=x:=by simpa [Value.ownBlock] using hx
   exact .inr (by omega)
theorem run_append_zero {P:Program} (w:World) (base:Nat) (t ty e:TypeId) (i:TypeInfo) (size:Nat) (ht:P.underlying t=some (.slice e)) (hi:P.info? e=some i)
 (v:Value) (n:Nat) (xs:List Value) (hown:w.ownsRow base e size v n xs) (a:Option Addr) (c:Nat):
 (Builtin.append_ #[t,t] ty #[v,.slice a 0 c]).run P w= .ok v w:=by
 rcases hown.2 with⟨rfl,rfl⟩|⟨g,cap,cur,rfl,_,_,hnc,_⟩
 ·cases a<;>simp[Builtin.append_,run_underlying ht,sizeOf,typeInfo,hi,Builtin.lenOf,Builtin.firstCells,loadCells,loadCellsFrom]
 ·cases a<;>simp[Builtin.append_,run_underlying ht,sizeOf,typeInfo,hi,Builtin.lenOf,Builtin.firstCells,loadCells,loadCellsFrom,hnc,storeCells]
theorem run_append_row {P:Program} {α:Type} {enc:α→List Value} {sz:Nat} (hs:∀x,(enc x).length=sz) (hz:0 < sz) (w:World) (base:Nat) (t ty e:TypeId) (i:TypeInfo) (z:Value) (bytes:Nat) (ht:P.underlying t=some (.slice e)) (hi:P.info? e=some i) (hz0:i.zero=some z)
 (hsize:i.size=sz) (hby:i.bytes=bytes) (hzs:z.cells.size=sz) (v:Value) (n:Nat) (xs:List Value) (hown:w.ownsRow base e sz v n xs)
 (a:Option Addr) (l:List α) (c:Nat) (ha:GR.At enc sz w a l) (h1:∀u∈GR.flat enc l,u.oneCell'=true) (h63:n+l.length≤maxLen) (hbytes:(n+l.length)*bytes≤140737488355328) (hbase:base≤w.heap.size):
 ∃v' w',(Builtin.append_ #[t,t] ty #[v,.slice a l.length c]).run P w= .ok v' w'∧w'.ownsRow base e sz v' (n+l.length) (xs++GR.flat enc l)∧w.grownBy w' v.ownBlock∧∀x,v'.ownBlock=some x→v.ownBlock=some x∨w.heap.size≤x:=by
 by_cases hl:l.length=0
 ·have hn:l=[]:=List.eq_nil_of_length_eq_zero hl
  subst hn
  exact⟨v,w,run_append_zero w base t ty e i sz ht hi v n xs hown a c,by simpa [GR.flat] using hown,World.grownBy.refl _ _,fun x hx=> .inl hx⟩
 ·obtain⟨g,off,rfl,_⟩:=ha 0 (by omega)
  exact run_append_where w base t ty e i z sz bytes ht hi hz0 hsize hby hzs hz v n xs hown ⟨g,off,none⟩ l.length c (GR.flat enc l) (GR.flat_length enc sz hs l) (newsG hs hz ha) h1 h63 hbytes hbase
theorem run_copy_row {P:Program} {α:Type} {enc:α→List Value} {sz:Nat} (hs:∀x,(enc x).length=sz) (hz:0 < sz) (w:World) (t e:TypeId) (i:TypeInfo) (z:Value) (bytes:Nat) (ht:P.underlying t=some (.slice e)) (hi:P.info? e=some i) (hz0:i.zero=some z)
 (hsize:i.size=sz) (hby:i.bytes=bytes) (hzs:z.cells.size=sz) (a:Option Addr) (l:List α) (c:Nat) (ha:GR.At enc sz w a l) (h1:∀u∈GR.flat enc l,u.oneCell'=true) (h63:l.length≤maxLen) (hbytes:l.length*bytes≤140737488355328):
 ∃a' c' w',(∀ty,(Builtin.append_ #[t,t] ty #[.slice (some ⟨w.heap.size,0,none⟩) 0 0,.slice a l.length c]).run P (w.alloc (.cells #[] e))= .ok (.slice a' l.length c') w')∧w'.ownsRow w.heap.size e sz (.slice a' l.length c') l.length (GR.flat enc l)∧Below w.heap.size w w'∧(∃g,a'=some ⟨g,0,none⟩)∧l.length≤c':=by
 have hlit:(w.alloc (.cells #[] e)).ownsRow w.heap.size e sz (.slice (some ⟨w.heap.size,0,none⟩) 0 0) 0 []:=World.ownsRow_lit (base:=w.heap.size) (e:=e) (size:=sz) w #[] 0 (Nat.le_refl _) (by unfold maxLen;omega) (by simp)
 by_cases hl0:l.length=0
 ·have hn:l=[]:=List.eq_nil_of_length_eq_zero hl0
  subst hn
  refine⟨some ⟨w.heap.size,0,none⟩,0,w.alloc (.cells #[] e),fun ty=>run_append_zero (w.alloc (.cells #[] e)) w.heap.size t ty e i sz ht hi _ 0 [] hlit a c,hlit,below_one w _,⟨_,rfl⟩,Nat.le_refl _⟩
 ·obtain⟨v',w',hr,ho,hg,_⟩:=run_append_row (P:=P) hs hz (w.alloc (.cells #[] e)) w.heap.size t 0 e i z bytes ht hi hz0 hsize hby hzs _ 0 [] hlit a l c (GR.At.below ha (below_one w _)) h1 (by omega) (by rw [Nat.zero_add];exact hbytes) (by simp)
  rw [Nat.zero_add,List.nil_append] at ho
  obtain⟨a',c',rfl,_⟩:=GR.own_at (enc:=enc) (sz:=sz) hs ho
  refine⟨a',c',w',fun ty=>hr,ho,(below_one w _).grown hg (by simp) (fun k hk=>by cases hk;exact Nat.le_refl _),?_⟩
  rcases ho.2 with⟨_,hn⟩|⟨g,cap,cur,hv,_,_,hnc,_⟩
  ·omega
  ·simp only[Value.slice.injEq] at hv
   exact⟨⟨g,hv.1⟩,by rw [hv.2.2];exact hnc⟩
theorem run_copy_rowQ {P:Program} {α:Type} {enc:α→List Value} {sz:Nat} (hs:∀x,(enc x).length=sz) (hz:0 < sz) (w:World) (t e:TypeId) (i:TypeInfo) (z:Value) (bytes:Nat) (ht:P.underlying t=some (.slice e)) (hi:P.info? e=some i) (hz0:i.zero=some z)
 (hsize:i.size=sz) (hby:i.bytes=bytes) (hzs:z.cells.size=sz) (a:Option Addr) (l:List α) (c:Nat) (ha:GR.At enc sz w a l) (h1:∀u∈GR.flat enc l,u.oneCell'=true) (h63:l.length≤maxLen) (hbytes:l.length*bytes≤140737488355328):
 ∃a' c' w',(∀ty,(Builtin.append_ #[t,t] ty #[.slice (some ⟨w.heap.size,0,none⟩) 0 0,.slice a l.length c]).run P (w.alloc (.cells #[] e))= .ok (.slice a' l.length c') w')∧w'.ownsRow w.heap.size e sz (.slice a' l.length c') l.length (GR.flat enc l)∧Below w.heap.size w w'∧(l=[]→c'=0):=by
 by_cases hl0:l.length=0
 ·have hn:l=[]:=List.eq_nil_of_length_eq_zero hl0
  subst hn
  have hlit:(w.alloc (.cells #[] e)).ownsRow w.heap.size e sz (.slice (some ⟨w.heap.size,0,none⟩) 0 0) 0 []:=World.ownsRow_lit (base:=w.heap.size) (e:=e) (size:=sz) w #[] 0 (Nat.le_refl _) (by unfold maxLen;omega) (by simp)
  exact⟨some ⟨w.heap.size,0,none⟩,0,w.alloc (.cells #[] e),fun ty=>run_append_zero (w.alloc (.cells #[] e)) w.heap.size t ty e i sz ht hi _ 0 [] hlit a c,hlit,below_one w _,fun _=>rfl⟩
 ·obtain⟨a',c',w',q1,q2,q3,_⟩:=run_copy_row hs hz w t e i z bytes ht hi hz0 hsize hby hzs a l c ha h1 h63 hbytes
  exact⟨a',c',w',q1,q2,q3,fun e=>absurd (by rw [e];rfl) hl0⟩
theorem wpList_append_eq {P:Program} {w:World} {ops:Array Oper} {rest:List Oper} {o:Oper} {a:Act} {Q:Exit→Act→World→Prop} (hgd:o.guard=none) (s x:Operand) (t:TypeId)
 (ho:o.op= .call {callee:= .builtin .append,args:=#[s,x],argTypes:=#[t,t]}) (vs vx:Value) (hs:a.eval s=vs) (hx:a.eval x=vx) (v':Value) (w':World) (hrun:(Builtin.append_ #[t,t] o.type #[vs,vx]).run P w= .ok v' w')
 (h:wpList P ops Q rest (a.put o.dst v') w'):wpList P ops Q (o::rest) a w:=by
 refine wpList_plain hgd fun K hK=>?_
 unfold Oper.wp
 simp[execOp,ho,resolve,invoke,builtin,hs,hx,hrun,Result.andThen]
 exact hK _ _ h
set_option maxHeartbeats 1000000
set_option maxRecDepth 100000
theorem l03Copy (a:Option Addr) (cap:Nat) (l:List Pu) (w:World) (hl:l.length≤1048600) (hn:a=none→l.length=0∧cap=0) (ha:PursesAt w a l):
 Calls Tryz.prog 64 #[.slice a l.length cap] w fun e w'=>∃v,e= .returned v∧v≠ .slice none 0 0∧w'.ownsRow w.heap.size 80 4 v l.length (GR.flat encP l)∧Below w.heap.size w w':=by
 obtain⟨i0,hi,hz0,hz1,hz2⟩:=info_parts infoPu
 have hlit:(w.alloc (.cells #[] 80)).ownsRow w.heap.size 80 4 (.slice (some ⟨w.heap.size,0,none⟩) 0 0) 0 []:=World.ownsRow_lit (base:=w.heap.size) (e:=80) (size:=4) w #[] 0 (Nat.le_refl _) (by decide) rfl
 cases a with
 |none=>
  obtain⟨h1,h2⟩:=hn rfl
  have hl0:l=[]:=List.eq_nil_of_length_eq_zero h1
  subst hl0 h2
  go_enter Tryz.func64,Tryz.ntmps64
  go_wp2_with (at_builtin;refine wpList_append_own_none rfl _ _ 25 rfl w.heap.size 80 i0 4 Tryz.underlying25 hi _ 0 [] rfl hlit rfl ?_)
  go_ret
  exact⟨_,rfl,(by intro h;cases h),hlit,below_one' w _⟩
 |some x=>
  have HN:=hide (PursesAt.news (GR.At.below ha (below_one' w (.cells #[] 80))))
  clear ha
  go_enter Tryz.func64,Tryz.ntmps64
  go_wp2_with (at_builtin;refine wpList_append_own _ rfl _ _ 25 rfl w.heap.size 80 i0 (.agg #[.string ByteArray.empty,.int .i64 0,.int .i64 0,.int .i64 0]) 4 40 Tryz.underlying25 hi hz0 hz1 hz2 rfl (by decide) _ 0 [] rfl hlit x l.length cap (GR.flat encP l) rfl ?c0 ?c1 ?c2 ?c3 ?c4 ?c5 ?_)
  case c0=>exact GR.flat_length encP 4 encP_length l
  case c1=>exact unhide HN
  case c2=>exact encP_one l
  case c3=>unfold maxLen;omega
  case c4=>omega
  case c5=>simp
  intro v' w1 hown' hgrow hnil
  have HNN:=hide (show v'≠ .slice none 0 0 from hnil)
  have HO:=hide (show w1.ownsRow w.heap.size 80 4 v' l.length (GR.flat encP l) by simpa using hown')
  have hb:Below w.heap.size w w1:=(below_one' w _).grown hgrow (by simp) (fun k hk=>by cases hk;exact Nat.le_refl _)
  clear hown' hgrow hlit hnil
  go_wp2
  go_ret
  exact⟨_,rfl,unhide HNN,unhide HO,hb⟩
end Go.Proofs.YtdlokncalhopoaaGreat
