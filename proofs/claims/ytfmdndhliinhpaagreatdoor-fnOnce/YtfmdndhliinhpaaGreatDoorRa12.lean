/- Parts. -/
import Derived.Test.YtfmdndhliinhpaaGreatDoorRa11
namespace Go.Proofs.YtfmdndhliinhpaaGreatDoor
open Go.RowKit
open Mth
namespace Mth
def bE (id par:Int) (kids fs:List Int):Nd:=⟨id,par,kids,1,[],[],fs.map (fun x=>⟨x,1,[]⟩),0,[]⟩
def gG:Nd:=⟨0,0,[],0,[],[],[],0,[]⟩
def zV (id par:Int) (kids:List Int):Nd×Bool:=if dx (bE id par kids []) then(bE id par kids (GX (jO (bE id par kids []))),true) else(gG,false)
theorem QC (id par:Int) (kids fs:List Int):dx (bE id par kids fs)=dx (bE id par kids []):=rfl
theorem VE (id par:Int) (kids fs:List Int):jO (bE id par kids fs)=jO (bE id par kids []):=rfl
theorem ael (id par:Int) (kids fs:List Int) (h:dx (bE id par kids [])=true) (hf:fs=GX (jO (bE id par kids []))):dJ (bE id par kids fs)=true:=by
 have hp:dx (bE id par kids fs)=true:=h
 have hm:(bE id par kids fs).seen.map (·.f)=GX (jO (bE id par kids fs)):=by
  rw [VE,←hf];simp[bE,Function.comp_def]
 have ha:(bE id par kids fs).seen.all rM=true:=by
  rw [List.all_eq_true];intro s hs;obtain⟨x,_,rfl⟩:=List.mem_map.1 hs;rfl
 unfold dJ;rw [hp,qR hp,decide_eq_true hm,ha];rfl
theorem aem (id par:Int) (kids fs:List Int) (h:dx (bE id par kids [])=false):dJ (bE id par kids fs)=false:=by
 unfold dJ;rw [QC,h];rfl
def kX (n:Nd) (k:Nat):List Int:=(upTo k).filter (dH n)
theorem QV (k:Nat):upTo (k+1)=upTo k++[(k:Int)]:=by
 unfold upTo;rw [List.range_succ,List.map_append];rfl
theorem JV (n:Nd) (k:Nat):kX n (k+1)=if dH n k then kX n k++[(k:Int)] else kX n k:=by
 unfold kX;rw [QV,List.filter_append,List.filter_cons];split<;>simp
theorem JW {n:Nd} (h:dx n=true):kX n 30=GX (jO n):=by
 have hk:=lV h
 have hp:n.par≤29:=by
  exact ace
 refine(Ui _ _ (GY (uX h)) ((Ck 30).sublist List.filter_sublist) ?_ ?_).symm
 ·intro x hx;rw [xI] at hx;(try unfold kX)
  rw [List.mem_filter];refine⟨?_,(sH h x).2 hx⟩;rw [KN];unfold jO at hx;rcases List.mem_append.1 hx with hx|hx
  ·have:=hk.1 x hx;unfold iP pE at this;simp only[Bool.and_eq_true,decide_eq_true_eq] at this;omega
  ·split at hx
   ·simp at hx
   ·have:x=n.par:=by simpa using hx
    omega
 ·refine Me _ _ ((Ck 30).sublist List.filter_sublist) (GY (uX h)) ?_;intro x hx;(try unfold kX at hx)
  rw [List.mem_filter] at hx;rw [xI];exact(sH h x).1 hx.2
theorem YE {id par:Int} {kids fs:List Int} (h:dx (bE id par kids [])=true) (hf:fs=GX (jO (bE id par kids []))):zV id par kids=(bE id par kids fs,true):=by
 unfold zV;rw [if_pos h,hf]
theorem aek {id par:Int} {kids:List Int} (h:dx (bE id par kids [])=false):zV id par kids=(gG,false):=by
 unfold zV;rw [if_neg (by rw [h];simp)]
end Mth
def lW (x:Int):R3:=⟨x,1,.slice none 0 0⟩
abbrev Rl (id par:Int) (kv v:Value):Array Value:=#[.int .i64 id,.int .i64 par,kv,.int .i64 1,.slice none 0 0,.slice none 0 0,v,.int .i64 0,.slice none 0 0]
structure NN (w2 wr:World) (nb:Nat) (id par:Int) (kv v:Value) (fs:List Int):Prop where
 keep:aC [nb] w2 wr
 blk:wr.heap[nb]?=some (.cells (Rl id par kv v) 30 (0,0))
 own:wr.ownsRow w2.heap.size 57 3 v fs.length (GR.flat dD (fs.map lW))
 lt:nb < w2.heap.size
theorem NN.step {w2 wr w':World} {nb:Nat} {id par:Int} {kv v:Value} {fs:List Int} (h:NN w2 wr nb id par kv v fs) (hb:Below wr.heap.size wr w'):NN w2 w' nb id par kv v fs:=
 ⟨h.keep.trans (aC.of_below hb),au h.blk hb,GR.own_below h.own hb,h.lt⟩
theorem NN.app {w2 wr w6:World} {nb:Nat} {id par:Int} {kv v v':Value} {fs:List Int} {o:Obj} (h:NN w2 wr nb id par kv v fs) (x:Int)
 (hown:w6.ownsRow w2.heap.size 57 3 v' (fs.length+1) (GR.flat dD (fs.map lW)++dD (lW x))) (hg:(wr.alloc o).grownBy w6 v.ownBlock):
 NN w2 (w6.setCell ⟨nb,6,none⟩ v') nb id par kv v' (fs++[x]):=by
 have hvb:∀k,v.ownBlock=some k→w2.heap.size≤k:=fun k hk=>(h.own.lt k hk).1
 have hlt:=h.lt;have hsz:=h.keep.size
 have hblk6:w6.heap[nb]?=some (.cells (Rl id par kv v) 30 (0,0)):=by
  rw [hg.block nb (by simp;omega) (fun e=>by have:=hvb nb e.symm;omega),Below.heap_alloc _ _ _ (by omega)];exact h.blk
 have hne:∀k,v'.ownBlock=some k→k≠nb:=fun k hk=>by have:=(hown.lt k hk).1;omega
 refine⟨?_,?_,?_,hlt⟩
 ·refine⟨hg.os.trans h.keep.os,hg.tape.trans h.keep.tape,hg.output.trans h.keep.output,?_,fun k hk hkn=>?_⟩
  ·have:=hg.size;simp[World.setCell] at this ⊢;omega
  ·have hkn':k≠nb:=by simpa using hkn
   exact aby
 ·exact bg hblk6 6 v'
 ·have e1:(fs++[x]).length=fs.length+1:=by simp
  have e2:GR.flat dD ((fs++[x]).map lW)=GR.flat dD (fs.map lW)++dD (lW x):=by rw [List.map_append,GR.flat_append];simp[GR.flat]
  rw [e1,e2];refine hown.kept (row:=some nb) ⟨rfl,rfl,rfl,by simp[World.setCell],fun k _ hk=>Below.heap_setCell _ _ _ _ (fun e=>hk (by rw [e]))⟩ ?_;exact ab1
theorem aes (x:Int):∀u∈dD (lW x),u.oneCell'=true:=by
 intro u hu;simp only[dD,lW,List.mem_cons,List.not_mem_nil,or_false] at hu;rcases hu with rfl|rfl|rfl<;>rfl
theorem fq.new {w:World} {B:Nat} {v:Value} {fs:List Int} (h:w.ownsRow B 57 3 v fs.length (GR.flat dD (fs.map lW))):∃a c g,v= .slice a fs.length c∧fq w a g (fun _=>0) (fs.map (fun x=>⟨x,1,[]⟩))∧(∀x∈fp g fs,B≤x∧x < w.heap.size):=by
 have h':w.ownsRow B 57 3 v (fs.map lW).length (GR.flat dD (fs.map lW)):=by rw [List.length_map];exact h
 obtain⟨a,c,g,e,hW,hr,_⟩:=GR.W.of_own bC h';refine⟨a,c,g,by rw [e,List.length_map],⟨fs.map lW,hW,by simp,fun i hi=>?_⟩,fun x hx=>hr x ?_⟩
 ·refine⟨none,0,?_,?_⟩
  ·have hi':i < fs.length:=by simpa using hi
   simp[hi',lW]
  ·simp only[List.getElem_map];exact GR.W.nil
 ·have:=fD hx;rw [this.1];exact dz (by simpa using this.2)
theorem Ao (I:Nat→Nat) (fs:List Int):nT I (fs.map (fun x=>(⟨x,1,[]⟩:Sn)))=[]:=by
 apply List.eq_nil_iff_forall_not_mem.2
 intro x hx;obtain⟨i,hi,_,hp⟩:=qJ hx;simp at hp
theorem qX.new {w:World} {B B2:Nat} {id par:Int} {kv v:Value} {kids fs:List Int} (hk:w.ownsRow B 3 1 kv kids.length (GR.flat aP kids)) (hkl:∀x,kv.ownBlock=some x→x < B2) (hs:w.ownsRow B2 57 3 v fs.length (GR.flat dD (fs.map lW))) (hB:B≤B2):
 ∃A G,Value.agg (Rl id par kv v)=fU (bE id par kids fs) A∧qX w A G (bE id par kids fs)∧G.Sep (bE id par kids fs) B w.heap.size:=by
 obtain⟨a1,c1,g1,rfl,hW1,hr1,ho1⟩:=GR.W.of_own aN hk;obtain⟨a2,c2,g2,rfl,hW2,hr2⟩:=fq.new hs
 have hall:∀x,x∈aX.all ⟨g1,0,0,g2,0,fun _=>0⟩ (bE id par kids fs)→x∈fp g1 kids∨x∈fp g2 fs:=fun x hx=>by
  rcases aX.mem_all.1 hx with h|h|h|h|h|h
  ·exact .inl h
  ·simp[bE,fp] at h
  ·simp[bE,fp] at h
  ·right
   rw [Bl (l':=fs) (by simp[bE])] at h;exact h
  ·simp only[bE] at h;rw [Ao] at h;simp at h
  ·simp[bE,fp] at h
 refine⟨⟨a1,none,none,a2,none,c1,0,0,c2,0⟩,⟨g1,0,0,g2,0,fun _=>0⟩,by simp[Rl,fU,fO,bE],⟨hW1,GR.W.nil,GR.W.nil,hW2,GR.W.nil⟩,⟨?_,fun x hx=>?_⟩⟩
 ·have e:aX.all ⟨g1,0,0,g2,0,fun _=>0⟩ (bE id par kids fs)=fp g1 kids++fp g2 fs:=by
   unfold aX.all;simp only[bE];rw [Ao,Bl (l:=fs.map _) (l':=fs) (by simp)];simp[fp]
  rw [e,List.nodup_append];refine⟨Bp _ _,Bp _ _,fun a ha b hb=>?_⟩;have h1:=hkl a (ho1 a ha);have h2:=(hr2 b hb).1;omega
 ·rcases hall x hx with h|h
  ·exact hr1 x h
  ·have:=hr2 x h;omega
theorem qX.zero {w:World}:qX w ⟨none,none,none,none,none,0,0,0,0,0⟩ ⟨0,0,0,0,0,fun _=>0⟩ gG∧aX.Sep ⟨0,0,0,0,0,fun _=>0⟩ gG w.heap.size w.heap.size:=
 ⟨⟨GR.W.nil,GR.W.nil,GR.W.nil,⟨[],GR.W.nil,rfl,fun i hi=>by simp[gG] at hi⟩,GR.W.nil⟩,⟨by simp[aX.all,gG,fp,nT],fun x hx=>by simp[aX.all,gG,fp,nT] at hx⟩⟩
set_option maxHeartbeats 4000000
set_option maxRecDepth 100000
namespace Mth
theorem QL {l:List Sn} {F:List Int} {k:Nat} (hk:k < l.length) (hF:F.length=l.length) (h1:(l.take k).map (·.f)=F.take k) (h2:(l.take k).all rM=true) (h3:(l[k]).f=F[k]'(by omega)) (h4:rM l[k]=true):
 (l.take (k+1)).map (·.f)=F.take (k+1)∧(l.take (k+1)).all rM=true:=by
 rw [List.take_succ_eq_append_getElem hk,List.take_succ_eq_append_getElem (by omega),List.map_append,h1,List.all_append,h2];simp[h3,h4]
theorem QJ {l:List Sn} {F:List Int} {k:Nat} (hk:k < l.length) (hF:F.length=l.length) (h3:¬(l[k]).f=F[k]'(by omega)):¬l.map (·.f)=F:=by
 intro h;apply h3
 subst h;simp
theorem QK {l:List Sn} {k:Nat} (hk:k < l.length) (h4:rM l[k]=false):l.all rM=false:=by
 rw [List.all_eq_false];exact⟨l[k],List.getElem_mem hk,by rw [h4];simp⟩
end Mth
theorem acI (s:Sn) (b:Option Addr) (c:Nat) (r:Bool) (wc:World) (hl:s.ids.length≤1048600) (ha:dM wc b s.ids) (hr:rM s=r):∀d os,Calls Tryz.prog 73 #[.agg #[.int .i64 s.f,.int .i64 s.l,.slice b s.ids.length c]] (Sort.grow (redrawn wc d) os) fun e w''=>e= .returned (.bool r)∧∃p:Regrown,w''=Sort.grow (redrawn wc p.d) p.os:=fun d os=>by
 rw [←hr];exact Calls.regrown_of (JB s b c _ hl (GR.At.below ha (below_regrown wc d os)))
theorem MJ (n:Nd) (A:bQ) (w:World) (hz:eF n 1048600) (hp:dx n=true) (ha:dQ w A n):
 Calls Tryz.prog 42 #[fU n A] w fun e w'=>e= .returned (.bool (mJ n))∧Below w.heap.size w w':=by
 have HA:=hide ha;have HD:=hide (qR hp);have HSK:=hide hz.sk;have K9:=hide (Bv n A (w.alloc (.cells (fO n A) 30)) hz.k (GR.At.below ha.k (ay w _)));have kR:=hide (heap_alloc_new w (.cells (fO n A) 30));have hls:=hz.s;have hln:(jO n).length≤1048602:=by have:=hz.k;unfold jO;split<;>simp<;>omega
 have vK:=hide (lY (jO n));generalize GX (jO n)=F at *;generalize (jO n).length=NL at *;generalize mJ n=TT at *;clear ha hz hp;open ajv in exact yu
theorem MF (n:Nd) (A:bQ) (w:World) (hz:eF n 1048600) (ha:dQ w A n):
 Calls Tryz.prog 14 #[fU n A] w fun e w'=>e= .returned (.bool (dJ n))∧Below w.heap.size w w':=by
 have Il:Hid (∀w1,Below w.heap.size w w1→Calls Tryz.prog 38 #[fU n A] w1 fun e w'=>e= .returned (.bool (dx n))∧Below w1.heap.size w1 w'):=fun w1 hb=>by
  have h:=MH n A w1 hz.k (ha.below hb).k
  rw [M8] at h
  exact h
 have WI:=hide (fun w1 (hb:Below w.heap.size w w1)=>qz A.p A.cp n.pu w1 hz.p (ha.below hb).p);have HOT:=hide (fun w1 (hb:Below w.heap.size w w1) (hp:dx n=true)=>Qr n A w1 hz hp (ha.below hb));have HSE:=hide (fun w1 (hb:Below w.heap.size w w1) (hp:dx n=true)=>MJ n A w1 hz hp (ha.below hb));have HRE:=hide (fun w1 (hb:Below w.heap.size w w1)=>MI n A w1 hz (ha.below hb));have HD:Hid (dJ n=(dx n&&iB n.pu&&mJ n&&eU n.next&&pJ n&&gF n)):=rfl;have kR:=hide (heap_alloc_new w (.cells (fO n A) 30));generalize dx n=PL at *;generalize iB n.pu=PS at *;generalize mJ n=TD at *;generalize pJ n=OT at *;generalize gF n=RQ at *;generalize dJ n=TT at *;clear ha hz;open aju in exact yu
abbrev iV:Array Value:=#[.int .i64 0,.int .i64 0,.slice none 0 0,.int .i64 0,.slice none 0 0,.slice none 0 0,.slice none 0 0,.int .i64 0,.slice none 0 0]
theorem M7 {w:World} {B B2:Nat} {id par:Int} {kv v:Value} {kids fs:List Int} (hk:w.ownsRow B 3 1 kv kids.length (GR.flat aP kids)) (hs:w.ownsRow B2 57 3 v fs.length (GR.flat dD (fs.map lW))):∃A,Value.agg (Rl id par kv v)=fU (bE id par kids fs) A∧dQ w A (bE id par kids fs):=by
 obtain⟨a1,c1,g1,rfl,hW1,_⟩:=GR.W.of_own aN hk;obtain⟨a2,c2,g2,rfl,hW2,_⟩:=fq.new hs;exact⟨⟨a1,none,none,a2,none,c1,0,0,c2,0⟩,by simp[Rl,fU,fO,bE],⟨hW1.at,GR.at_nil _ _,GR.at_nil _ _,hW2.at,GR.at_nil _ _⟩⟩
theorem tN {x g:Nat} (h:x∈[g]):x=g:=by simpa using h
theorem aew {id par:Int} {kids fs:List Int} (h1:kids.length≤1048600) (h2:fs.length≤1048600):eF (bE id par kids fs) 1048600:=
 ⟨h1,by simp[bE],by simp[bE],by simpa [bE] using h2,by simp[bE],fun x hx=>by simp[bE] at hx,fun x hx=>by simp[bE] at hx,fun x hx=>by simp only[bE,List.mem_map] at hx;obtain⟨y,_,rfl⟩:=hx;simp,fun x hx=>by simp[bE] at hx⟩
end Go.Proofs.YtfmdndhliinhpaaGreatDoor
