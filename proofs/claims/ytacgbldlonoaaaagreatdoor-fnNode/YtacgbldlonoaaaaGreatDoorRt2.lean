/- Parts. -/
import Derived.Test.YtacgbldlonoaaaaGreatDoorRt1
namespace Go.Proofs.YtacgbldlonoaaaaGreatDoor
open Go.RowKit
open Mth
namespace Mth
theorem atc {α:Type} {p:α→Bool} {f:α→Int} {l:List α} (h:fT p (fun s t=>gJ (f s) (f t)) l=true):l.Pairwise (fun s t=>f s < f t):=by
 have:=((oN (p:=p) (r:=fun s t=>gJ (f s) (f t)) (fun a b c h1 h2=>kH _ _ _ h1 h2)).1 h).2;exact this.imp (fun h=>by simpa [gJ] using h)
theorem auk {l:List jm} (hp:l.Pairwise (fun s t=>s.i < t.i)) (t ab:Int):∀x∈l,x.t=t→qP l t ab≤x.i:=by
 induction l with
 |nil=>intro x hx;simp at hx
 |cons y l ih=>
  intro x hx ht
  obtain⟨h1,h2⟩:=List.pairwise_cons.1 hp
  unfold qP
  rw [List.find?_cons]
  by_cases hy:y.t=t
  ·rw [decide_eq_true hy];rcases List.mem_cons.1 hx with rfl|hx
   ·exact Int.le_refl _
   ·exact Int.le_of_lt (h1 x hx)
  ·rw [decide_eq_false hy];rcases List.mem_cons.1 hx with rfl|hx
   ·exact absurd ht hy
   ·exact ih h2 x hx ht
theorem auC {l:List jm} (t ab:Int) (h:∀x∈l,1≤x.i) (hab:1≤ab):1≤qP l t ab:=by
 unfold qP;cases hf:l.find? (fun o=>decide (o.t=t)) with
 |none=>exact hab
 |some y=>exact h y (List.mem_of_find?_eq_some hf)
theorem asE {n:Nd} (hp:bQ n=true) {x:Int} (h:dB n x=true):jZ n.id x=true:=by
 unfold bQ at hp;simp only[Bool.and_eq_true,decide_eq_true_eq] at hp;obtain⟨⟨⟨⟨h1,h2⟩,h3⟩,_⟩,h5⟩:=hp;unfold dB at h;rw [Bool.or_eq_true] at h;unfold jZ;rcases h with h|h
 ·simp only[Bool.and_eq_true,decide_eq_true_eq] at h;have e:nY x=true:=decide_eq_true ⟨h.1,by omega⟩;rw [h1,e];simp only[Bool.true_and,decide_eq_true_eq];intro e2;omega
 ·unfold hasB at h;rw [List.any_eq_true] at h;obtain⟨y,hy,e⟩:=h;have e':y=x:=by simpa using e
  subst e';have hk:=uT h5 y hy;unfold iE at hk;simp only[Bool.and_eq_true,decide_eq_true_eq] at hk;rw [h1,hk.1.1];simp only[Bool.true_and,decide_eq_true_eq];exact fun e=>hk.1.2 e.symm
theorem asV {n:Nd} (h:dG n=true):(∀x∈n.out,bJ (lG n x)=true)∧∀x∈n.out,∀y∈n.out,(lG n y).T=(lG n x).T→¬(lG n y).I < (lG n x).L:=by
 unfold dG at h;simp only[Bool.and_eq_true] at h;obtain⟨⟨⟨⟨⟨hp,_⟩,_⟩,hn⟩,ho⟩,_⟩:=h;unfold nZ at ho;simp only[Bool.and_eq_true] at ho;have hm:=uT ho.2;have ha:=atc (f:=fun s:jm=>s.i) ho.2;have hn':1≤n.next∧n.next≤1000000000:=by simpa [eD] using hn
 have h1:∀x∈n.out,1≤x.i:=by
  intro x hx;have:=hm x hx;unfold qy at this;simp only[Bool.and_eq_true,decide_eq_true_eq] at this;omega
 constructor
 ·intro x hx;have hx':=hm x hx;unfold qy at hx';simp only[Bool.and_eq_true,decide_eq_true_eq] at hx';obtain⟨⟨⟨hi,hne⟩,hk⟩,hs⟩:=hx';have hr:=asE hp hne;have hl:=auk ha x.t x.i x hx rfl;have hl1:=auC x.t x.i h1 (h1 x hx);have hsi:eD x.i=true:=decide_eq_true ⟨by omega,by omega⟩;unfold bJ lG;dsimp only;rw [hr,hk,hs,hsi];simp only[Bool.true_and];rw [if_neg (by decide),if_pos trivial];exact decide_eq_true ⟨hl1,hl⟩
 ·intro x hx y hy ht;have:=auk ha x.t x.i y hy ht;exact Int.not_lt.2 this
end Mth
namespace Mth
theorem as1 {n:Nd} {dst:Int} {key:ByteArray} {most:Int} (h:dG n=true) (hd:dB n dst=true) (hk:keyOk key.data.toList=true) (hm:most≤1000000000):∀x∈(dV n dst key most).2.1,bJ x=true∧x.F=n.id:=by
 have hg:=Dh (a:=most) h hd hk hm;unfold dV at hg ⊢;split
 ·rename_i hp
  rw [if_pos hp] at hg;dsimp only at hg ⊢;intro x hx;have hx':x=lG (nG n dst key (lN n key most)) ⟨n.next,dst,key,lN n key most⟩:=by simpa using hx
  subst hx';exact⟨(asV hg).1 _ (by unfold nG;simp),rfl⟩
 ·intro x hx;simp at hx
theorem avp {n:Nd} {o:jE} (h:(Pn n o).2.2≠3):∀x∈(Pn n o).2.1,bJ x=true∧x.F=n.id:=by
 obtain⟨h1,h2,h3,h4⟩:=asB h;have hpl:=(bq h1).1;rw [h4]
 have none_:∀{L:List Mg},L=[]→∀x∈L,bJ x=true∧x.F=n.id:=by
  intro L e x hx;rw [e] at hx;simp at hx
 rcases Dj h2 with hK|hK|hK|hK|hK|hK|hK
 ·exact none_ (by unfold dW;rw [if_pos hK];split<;>rfl)
 ·exact none_ (by unfold dW;rw [if_neg (by omega),if_pos hK])
 ·exact none_ (by unfold dW;rw [if_neg (by omega),if_neg (by omega),if_pos hK])
 ·by_cases hp:n.par= -1
  ·exact none_ (by unfold dW;rw [if_neg (by omega),if_neg (by omega),if_neg (by omega),if_pos hK,if_pos hp])
  ·have e:dW n o=(n,[Dv n o],0):=by unfold dW;rw [if_neg (by omega),if_neg (by omega),if_neg (by omega),if_pos hK,if_neg hp]
   rw [e];intro x hx;have hx':x=Dv n o:=by simpa using hx
   subst hx';obtain⟨hk,hn1,hn2⟩:=Ir h2 (.inr (.inl hK));have hr:=asE hpl (SI h1 hp);have hs:eD o.n=true:=decide_eq_true ⟨hn1,hn2⟩;refine⟨?_,rfl⟩;unfold bJ Dv;dsimp only;rw [hr,if_pos rfl,hk,hs];rfl
 ·obtain⟨hk1,_,hk3⟩:=Ir h2 (.inr (.inr hK));by_cases hp:n.par= -1
  ·exact none_ (by unfold dW;rw [if_neg (by omega),if_neg (by omega),if_neg (by omega),if_neg (by omega),if_pos hK,if_pos hp])
  ·have e:(dW n o).2.1=(dV n n.par o.k o.n).2.1:=by unfold dW;rw [if_neg (by omega),if_neg (by omega),if_neg (by omega),if_neg (by omega),if_pos hK,if_neg hp]
   rw [e];exact as1 h1 (SI h1 hp) hk1 hk3
 ·have e:(dW n o).2.1=n.out.map (lG n):=by unfold dW;rw [if_neg (by omega),if_neg (by omega),if_neg (by omega),if_neg (by omega),if_neg (by omega),if_pos hK]
  rw [e];intro x hx;obtain⟨s,hs,rfl⟩:=List.mem_map.1 hx;exact⟨(asV h1).1 s hs,rfl⟩
 ·have e:dW n o=eF n o.m:=by
   exact Zb6
  have hmo:=Di h2 hK;obtain⟨_,atD⟩:=zh h3 hK;rw [e];rcases Df hmo with hM|hM|hM
  ·obtain⟨hk1,_,hk3⟩:=Dg hmo hM;unfold eF;rw [if_neg (by omega),if_neg (by omega)];split
   ·exact as1 h1 atD hk1 hk3
   ·exact none_ rfl
  ·obtain⟨hi1,hi2,_⟩:=zW hmo hM;unfold eF;rw [if_pos hM];dsimp only;split
   ·intro x hx;have hx':x=Np n o.m:=by simpa using hx
    subst hx';have hr:=asE hpl atD;have hs:eD o.m.I=true:=decide_eq_true ⟨hi1,hi2⟩;refine⟨?_,rfl⟩;unfold bJ Np;dsimp only;rw [hr,if_neg (by decide),if_neg (by decide),if_pos rfl,hs];rfl
   ·exact none_ rfl
  ·exact none_ (by unfold eF;rw [if_neg (by omega),if_pos hM])
end Mth
theorem asT {α:Type} {enc:α→List Value} {sz:Nat} {c:Nat→Nat} {k j:Nat} {w w':World} {a:Option Addr} {l:List α} (h:KC c k w w') (ha:GR.At enc sz w a l) (hc:∀g,a.map (fun y=>y.block)=some g→0 < l.length→c g=j) (hj:j≠k):GR.At enc sz w' a l:=fun i hi=>by
 obtain⟨g,off,e,hg,hcell⟩:=ha i hi;have hb:=h.block g hg (by rw [hc g (by rw [e];rfl) (by omega)];exact hj);exact⟨g,off,e,Nat.lt_of_lt_of_le hg h.size,fun q hq=>(World.cell?_of_block (w:=w) hb).trans (hcell q hq)⟩
theorem RMc.kc {w w':World} {A:bE} {n:Nd} {gk gs k:Nat} {I:Nat→Nat} {c:Nat→Nat} (h:RMc w A n gk gs I c) (hk:KC c k w w') (h0:k=0∨6 < k):RMc w' A n gk gs I c:=
 ⟨hk.w h.k h.ck (by omega),asT hk h.p h.cp (by omega),hk.own h.o h.co (by omega),hk.seenQ h.s h.c4 h.ci (by omega) (by omega),hk.own h.r h.cr (by omega),h.ck,h.cp,h.co,h.c4,h.ci,h.cr,h.ni⟩
def asz (L:Nat) (w:World):World:={w with heap:=w.heap.mapIdx (fun i o=>if i < L then .cells #[] 0 (0,0) else o)}
theorem as3 {L x:Nat} {w:World} (hx:x < L) (hw:x < w.heap.size):(asz L w).heap[x]?=some (.cells #[] 0 (0,0)):=by
 unfold asz;simp[hx,hw]
theorem asX {L x:Nat} {w:World} (hx:L≤x):(asz L w).heap[x]?=w.heap[x]?:=by
 unfold asz;simp only[Array.getElem?_mapIdx];cases h:w.heap[x]? with
 |none=>rfl
 |some o=>simp[Nat.not_lt.2 hx]
theorem asx (L:Nat) (w:World):(asz L w).heap.size=w.heap.size:=by simp[asz]
theorem asW {L x o:Nat} {w:World} (hx:x < L) (hw:x < w.heap.size):(asz L w).cell? ⟨x,o,none⟩=none:=by
 rw [cell_of_row _ x o _ _ _ (as3 hx hw)];simp
theorem atj {L sz n B x:Nat} {e:TypeId} {v:Value} {xs:List Value} {w:World} (h:(asz L w).ownsRow B e sz v n xs) (hx:v.ownBlock=some x) (he:e≠0):L≤x:=by
 rcases h.2 with⟨hv,_⟩|⟨g,cap,cur,hv,_,hgg,_⟩
 ·rw [hv] at hx;simp[Value.ownBlock] at hx
 ·rw [hv] at hx;have e1:g=x:=by simpa [Value.ownBlock] using hx
  subst e1;rcases Nat.lt_or_ge g L with hl|hl
  ·have hs:=aA hgg;rw [asx] at hs;rw [as3 hl hs] at hgg;simp only[Option.some.injEq,Obj.cells.injEq] at hgg;exact absurd hgg.2.1.symm he
  ·exact hl
theorem atq {α:Type} {enc:α→List Value} {sz L g:Nat} {w:World} {a:Option Addr} {l:List α} (hs:∀x,(enc x).length=sz) (hz:0 < sz) (h:GR.W enc sz (asz L w) a g l) (hp:0 < l.length):L≤g:=by
 obtain⟨_,hg,hc⟩:=h 0 hp;rw [asx] at hg;rcases Nat.lt_or_ge g L with hl|hl
 ·have h1:=(hc 0 hz).1;rw [asW hl hg,List.getElem?_eq_getElem (by rw [hs];exact hz)] at h1;cases h1
 ·exact hl
theorem Dx.rm {w w':World} {A:bE} {n:Nd} (h:∀W'',Dx w w' W''→RM W'' A n):∃gk gs I c,RMc w' A n gk gs I c∧∀x,x < w.heap.size→c x=0:=by
 have hk:aC (List.range w.heap.size) w' (asz w.heap.size w'):=⟨rfl,rfl,rfl,by rw [asx];exact Nat.le_refl _,fun x _ hx=>asX (by have:¬x < w.heap.size:=fun h=>hx (List.mem_range.2 h);omega)⟩;obtain⟨gk,gs,I,c,hr⟩:=h (asz w.heap.size w') ⟨List.range w.heap.size,hk,fun x hx=>List.mem_range.1 hx⟩;have b1:∀x∈fp gk n.kids,w.heap.size≤x:=fun x hx=>by rw [(gD hx).1];exact atq aN (by omega) hr.k (gD hx).2
 have b2:∀g,A.p.map (fun y=>y.block)=some g→0 < n.pu.length→w.heap.size≤g:=fun g hg hp=>by
  obtain⟨g',off,e,hg',hc⟩:=hr.p 0 hp
  rw [e] at hg
  cases hg
  rw [asx] at hg'
  rcases Nat.lt_or_ge g' w.heap.size with hl|hl
  ·have h1:=hc 0 (by omega);rw [asW hl hg',List.getElem?_eq_getElem (by rw [aZ];omega)] at h1;cases h1
  ·exact hl
 have b3:∀x,(Value.slice A.o n.out.length A.co).ownBlock=some x→w.heap.size≤x:=fun x hx=>atj hr.o hx (by decide)
 have b6:∀x,(Value.slice A.r n.reqs.length A.cr).ownBlock=some x→w.heap.size≤x:=fun x hx=>atj hr.r hx (by decide)
 have b4:∀x∈fp gs n.seen,w.heap.size≤x:=fun x hx=>by
  rw [(gD hx).1]
  obtain⟨⟨T,hT,hl,_⟩,_⟩:=hr.s
  exact atq bC (by omega) hT (by rw [hl];exact(gD hx).2)
 have b5:∀x∈nM I n.seen,w.heap.size≤x:=fun x hx=>by
  obtain⟨i,hi,rfl,hp⟩:=uf hx
  obtain⟨⟨T,hT,hl,hq⟩,_⟩:=hr.s
  obtain⟨b,cc,_,ho⟩:=hq i hi
  exact atq aN (by omega) ho.W hp
 have same:∀x,w.heap.size≤x→(if x < w.heap.size then 0 else c x)=c x:=fun x hx=>if_neg (by omega)
 have hr2:RMc (asz w.heap.size w') A n gk gs I (fun x=>if x < w.heap.size then 0 else c x):=
  ⟨hr.k,hr.p,hr.o,hr.s,hr.r,fun x hx=>(same x (b1 x hx)).trans (hr.ck x hx),fun g hg hp=>(same g (b2 g hg hp)).trans (hr.cp g hg hp),fun x hx=>(same x (b3 x hx)).trans (hr.co x hx),fun x hx=>(same x (b4 x hx)).trans (hr.c4 x hx),fun x hx=>(same x (b5 x hx)).trans (hr.ci x hx),fun x hx=>(same x (b6 x hx)).trans (hr.cr x hx),hr.ni⟩
 refine⟨gk,gs,I,fun x=>if x < w.heap.size then 0 else c x,hr2.kc (k:=0) ⟨rfl,rfl,rfl,by rw [asx];exact Nat.le_refl _,fun x _ hx=>?_⟩ (.inl rfl),fun x hx=>if_pos hx⟩
 exact(asX (by
  rcases Nat.lt_or_ge x w.heap.size with hl|hl
  ·exact absurd (if_pos hl) hx
  ·exact hl)).symm
theorem RMc.node {w:World} {A:bE} {n n':Nd} {gk gs:Nat} {I:Nat→Nat} {c:Nat→Nat} (h:RMc w A n gk gs I c) (e1:n'.kids=n.kids) (e2:n'.pu=n.pu) (e3:n'.out=n.out) (e4:n'.seen=n.seen) (e5:n'.reqs=n.reqs):RMc w A n' gk gs I c:=by
 obtain⟨_,_,_,_,_,_,_,_,_⟩:=n;obtain⟨_,_,_,_,_,_,_,_,_⟩:=n';dsimp only at e1 e2 e3 e4 e5;subst e1 e2 e3 e4 e5;exact⟨h.k,h.p,h.o,h.s,h.r,h.ck,h.cp,h.co,h.c4,h.ci,h.cr,h.ni⟩
set_option maxHeartbeats 2000000
set_option maxRecDepth 100000
theorem at7 (y:Int):0≤bits .and .i64 y 255∧bits .and .i64 y 255≤255:=by
 have h:bits .and .i64 y 255=IntKind.i64.wrap ((BitVec.ofInt 64 y&&& BitVec.ofInt 64 255).toNat:Int):=rfl
 have h2:(BitVec.ofInt 64 y&&& BitVec.ofInt 64 255).toNat≤255:=by
  rw [BitVec.toNat_and];exact Nat.le_trans Nat.and_le_right (by decide)
 rw [h,IntWalk.i64_in _ ⟨by omega,by omega⟩];omega
def Cur (w:World) (c:Nat):Prop:=
 ∃(a:Option Addr) (len cap i:Nat) (h:Int),w.heap[c]?=some (.cells #[.slice a len cap,.int .i64 i,.int .i64 h] 132 (0,0))∧i≤len∧len≤1048576∧
  (∀j < len,∃(b off:Nat) (z:Int),a=some ⟨b,off,none⟩∧b < c∧0≤z∧z≤255∧w.cell? ⟨b,off+j,none⟩=some (.int .u8 z))
theorem Cur.lt {w:World} {c:Nat} (h:Cur w c):c < w.heap.size:=by
 obtain⟨a,len,cap,i,hh,hb,_⟩:=h;rcases Nat.lt_or_ge c w.heap.size with h'|h'
 ·exact h'
 ·rw [Array.getElem?_eq_none h'] at hb;cases hb
theorem Cur.below {w w':World} {c B:Nat} (h:Cur w c) (hb:Below B w w') (hB:c < B):Cur w' c:=by
 obtain⟨a,len,cap,i,hh,hblk,h1,h2,h3⟩:=h;refine⟨a,len,cap,i,hh,by rw [hb.block c hB];exact hblk,h1,h2,fun j hj=>?_⟩;obtain⟨b,off,z,e,hbc,z0,z1,hc⟩:=h3 j hj;exact⟨b,off,z,e,hbc,z0,z1,by rw [hb.cell (p:=⟨b,off+j,none⟩) (show b < B by omega)];exact hc⟩
theorem asN {w:World} {c:Nat} {cs:Array Value} {t:TypeId} (h:w.heap[c]?=some (.cells cs t (0,0))) (i:Nat) (v:Value):(w.setCell ⟨c,i,none⟩ v).heap[c]?=some (.cells (cs.setIfInBounds i v) t (0,0)):=by
 exact Zb9
theorem atJ {w:World} {a:Option Addr} {c len cap i i':Nat} {h h':Int} (hblk:w.heap[c]?=some (.cells #[.slice a len cap,.int .i64 i,.int .i64 h] 132 (0,0))) (hi:i'≤len) (hlen:len≤1048576)
 (hcode:∀j < len,∃(b off:Nat) (z:Int),a=some ⟨b,off,none⟩∧b < c∧0≤z∧z≤255∧w.cell? ⟨b,off+j,none⟩=some (.int .u8 z)):
 Cur ((w.setCell ⟨c,2,none⟩ (.int .i64 h')).setCell ⟨c,1,none⟩ (.int .i64 (i':Int))) c:=by
 have h1:=asN (asN hblk 2 (.int .i64 h')) 1 (.int .i64 (i':Int));refine⟨a,len,cap,i',h',by simpa using h1,hi,hlen,fun j hj=>?_⟩;obtain⟨b,off,z,e,hbc,z0,z1,hc⟩:=hcode j hj;refine⟨b,off,z,e,hbc,z0,z1,?_⟩;rw [World.cell?_setCell_other _ _ _ _ (by intro e;have:=congrArg Addr.block e;simp at this;omega),World.cell?_setCell_other _ _ _ _ (by intro e;have:=congrArg Addr.block e;simp at this;omega)];exact hc
theorem atr {w:World} {a:Option Addr} {c len cap i:Nat} {h h':Int} (hblk:w.heap[c]?=some (.cells #[.slice a len cap,.int .i64 i,.int .i64 h] 132 (0,0))) (hi:i≤len) (hlen:len≤1048576)
 (hcode:∀j < len,∃(b off:Nat) (z:Int),a=some ⟨b,off,none⟩∧b < c∧0≤z∧z≤255∧w.cell? ⟨b,off+j,none⟩=some (.int .u8 z)):
 Cur (w.setCell ⟨c,2,none⟩ (.int .i64 h')) c:=by
 have h1:=asN hblk 2 (.int .i64 h');refine⟨a,len,cap,i,h',by simpa using h1,hi,hlen,fun j hj=>?_⟩;obtain⟨b,off,z,e,hbc,z0,z1,hc⟩:=hcode j hj;refine⟨b,off,z,e,hbc,z0,z1,?_⟩;rw [World.cell?_setCell_other _ _ _ _ (by intro e;have:=congrArg Addr.block e;simp at this;omega)];exact hc
theorem Keeps.drewN {c q:Nat} {w w':World} (h:Keeps c w w'):Keeps c w (w'.drewN q):=⟨h.os,h.tape,h.output,h.size,h.block⟩
theorem Cur.drewN {c q:Nat} {w:World} (h:Cur w c):Cur (w.drewN q) c:=h
theorem asH (c:Nat) (w:World) (hc:Cur w c):
 Calls Tryz.prog 122 #[.pointer (some ⟨c,0,none⟩)] w fun e w'=>∃x:Int,e= .returned (.int .i64 x)∧0≤x∧x≤255∧Cur w' c∧Keeps c w w':=by
 obtain⟨a,len,cap,i,h,hblk,hil,hlen,hcode⟩:=hc;have c0:w.cell? ⟨c,0,none⟩=some (.slice a len cap):=by rw [cell_of_row w c 0 _ _ (0,0) hblk];rfl
 have c1:w.cell? ⟨c,1,none⟩=some (.int .i64 i):=by rw [cell_of_row w c 1 _ _ (0,0) hblk];rfl
 have c2:w.cell? ⟨c,2,none⟩=some (.int .i64 h):=by rw [cell_of_row w c 2 _ _ (0,0) hblk];rfl
 have f1:w.frozen? ⟨c,1,none⟩=false:=by unfold World.frozen?;rw [hblk];rfl
 have f2:w.frozen? ⟨c,2,none⟩=false:=by unfold World.frozen?;rw [hblk];rfl
 have HB:=hide hblk;have as0:=hide hcode;clear hblk hcode;by_cases hlt:i < len
 ·obtain⟨b,off,z,rfl,hbc,z0,z1,hz⟩:=ah as0 i hlt;have hne:b≠c:=by omega
  open avt in exact Yb2
 ·have hnlt:decide ((i:Int) < (len:Int))=false:=by simp;omega
  open Sb9 in exact Yb2
set_option maxHeartbeats 1000000
theorem Cur.keep_below {w w':World} {c:Nat} (h:Cur w c) (hb:Below w.heap.size w w'):Cur w' c:=h.below hb h.lt
theorem asj (c:Nat) (n:Int) (w:World) (hc:Cur w c) (hn:0 < n) (hm:n≤4000000000):
 Calls Tryz.prog 44 #[.pointer (some ⟨c,0,none⟩),.int .i64 n] w fun e w'=>∃x:Int,e= .returned (.int .i64 x)∧0≤x∧x < n∧Cur w' c∧Keeps c w w':=by
 have HC:=hide hc;clear hc;have hm1:∀x:Int,0≤x→x % n < n:=fun x _=>Int.emod_lt_of_pos x hn
 have hm2:∀x:Int,0≤x % n:=fun x=>Int.emod_nonneg x (by omega)
 by_cases hs:n≤256
 ·have H1:=hide hm1;have H2:=hide hm2;clear hm1 hm2;go_enter Tryz.func44,Tryz.ntmps44
  go_wp2_with (go_at_call 122;refine(asH c _ HC).mono ?_;rintro e w1 ⟨x,rfl,hx0,hx1,hc1,hk1⟩;have Wt:=hide hc1;clear hc1)
  go_ret;exact⟨_,rfl,H2 _,H1 _ hx0,Wt,hk1⟩
 ·have H1:=hide hm1;have H2:=hide hm2;clear hm1 hm2;go_enter Tryz.func44,Tryz.ntmps44
  go_wp2_with fail;refine(asH c _ HC).mono ?_;rintro e w1 ⟨x,rfl,hx0,hx1,hc1,hk1⟩;have Wt:=hide hc1;clear hc1;go_wp2_with fail;refine(asH c _ Wt).mono ?_;rintro e w2 ⟨y,rfl,hy0,hy1,hc2,hk2⟩;have uF:=hide hc2;clear hc2;go_wp2_with fail;refine(asH c _ uF).mono ?_;rintro e w3 ⟨z,rfl,hz0,hz1,hc3,hk3⟩;have PD:=hide hc3;clear hc3;go_wp2_with fail;refine(asH c _ PD).mono ?_;rintro e w4 ⟨t,rfl,ht0,ht1,hc4,hk4⟩;have HC4:=hide hc4;clear hc4;go_wp2
  go_ret;exact⟨_,rfl,H2 _,H1 _ (by omega),HC4,((hk1.trans hk2).trans hk3).trans hk4⟩
set_option maxHeartbeats 1000000
theorem asn (c g cap:Nat) (zs:List Int) (w:World) (hc:Cur w c) (hne:g≠c) (hp:0 < zs.length) (hm:zs.length≤1000) (hcell:∀i (hi:i < zs.length),w.cell? ⟨g,i,none⟩=some (.int .i64 zs[i])) (hgl:g < w.heap.size):
 Calls Tryz.prog 43 #[.pointer (some ⟨c,0,none⟩),.slice (some ⟨g,0,none⟩) zs.length cap] w fun e w'=>∃z:Int,e= .returned (.int .i64 z)∧z∈zs∧Cur w' c∧Keeps c w w':=by
 have HC:=hide hc;have HL:=hide hcell;clear hc hcell;go_enter Tryz.func43,Tryz.ntmps43
 go_wp2_with fail;refine(asj c _ _ HC (by omega) (by omega)).mono ?_;rintro e w1 ⟨x,rfl,hx0,hx1,hc1,hk1⟩;obtain⟨k,rfl⟩:=Int.eq_ofNat_of_zero_le hx0;have hk:k < zs.length:=by omega
 have hcell1:w1.cell? ⟨g,k,none⟩=some (.int .i64 zs[k]):=(World.cell?_of_block (w:=w) (hk1.block g hgl hne)).trans (HL k hk);exact Zb8
theorem auh (a:Option Addr) (len cap:Nat) (w:World) (hlen:len≤1048576) (hcode:∀j < len,∃(b off:Nat) (z:Int),a=some ⟨b,off,none⟩∧b < w.heap.size∧0≤z∧z≤255∧w.cell? ⟨b,off+j,none⟩=some (.int .u8 z)):
 Calls Tryz.prog 31 #[.slice a len cap] w fun e w'=>e= .returned (.pointer (some ⟨w.heap.size,0,none⟩))∧Cur w' w.heap.size∧Below w.heap.size w w':=by
 have as0:=hide hcode;clear hcode;go_enter Tryz.func31,Tryz.ntmps31
 go_wp2
 go_loop [3,4] (fun h i=>∃(k:Nat) (x:Int),k≤len∧i= .int .i64 k∧h= .int .i64 x) (fun _ i=>len - (intOf i).toNat)
 case atStart=>exact⟨0,_,Nat.zero_le _,rfl,rfl⟩
 case round=>
  obtain⟨k,x,hk,rfl,rfl⟩:=hrel;by_cases hlt:k < len
  ·obtain⟨b,off,z,rfl,hb,z0,z1,hz⟩:=ah as0 k hlt;by_cases h4:k < 4000
   ·go_wp2
    go_round
    case rel=>exact⟨k+1,_,by omega,by go_num,rfl⟩
    case measure=>simp[intOf];omega
   ·exact Zb2
  ·have hd:decide ((k:Int) < (len:Int))=false:=by simp;omega
   exact Zb2
theorem asq (w:World) (zs:List Int) (t:TypeId) (i:Nat) (hi:i < zs.length):(w.alloc (.cells (zs.map (Value.int .i64)).toArray t)).cell? ⟨w.heap.size,i,none⟩=some (.int .i64 zs[i]):=by
 rw [World.cell?_alloc_mark];simp[hi]
theorem auj (w:World) (xs:List ByteArray) (t:TypeId) (i:Nat) (hi:i < xs.length):(w.alloc (.cells (xs.map Value.string).toArray t)).cell? ⟨w.heap.size,i,none⟩=some (.string xs[i]):=by
 rw [World.cell?_alloc_mark];simp[hi]
theorem asv {c:Nat} {w:World} (o:Obj):Keeps c w (w.alloc o):=Keeps.of_below ((Below.refl _ _).alloc (Nat.le_refl _) _)
theorem asl {c:Nat} {w:World} (h:Cur w c) (o:Obj):Cur (w.alloc o) c:=h.keep_below ((Below.refl _ _).alloc (Nat.le_refl _) _)
def asA (w:World) (a:Option Addr) (len:Nat):Prop:=len≤1048576∧∀j < len,∃(b off:Nat) (z:Int),a=some ⟨b,off,none⟩∧b < w.heap.size∧0≤z∧z≤255∧w.cell? ⟨b,off+j,none⟩=some (.int .u8 z)
theorem asA.below {w w':World} {a:Option Addr} {len:Nat} (h:asA w a len) (hb:Below w.heap.size w w'):asA w' a len:=by
 refine⟨h.1,fun j hj=>?_⟩;obtain⟨b,off,z,e,hbl,z0,z1,hc⟩:=h.2 j hj;exact⟨b,off,z,e,Nat.lt_of_lt_of_le hbl hb.size,z0,z1,by rw [hb.cell (p:=⟨b,off+j,none⟩) hbl];exact hc⟩
end Go.Proofs.YtacgbldlonoaaaaGreatDoor
