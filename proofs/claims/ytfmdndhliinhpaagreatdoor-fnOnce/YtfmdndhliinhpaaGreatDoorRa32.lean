/- Parts. -/
import Derived.Test.YtfmdndhliinhpaaGreatDoorRa31
namespace Go.Proofs.YtfmdndhliinhpaaGreatDoor
set_option maxHeartbeats 16000000
set_option maxRecDepth 100000
open Go.RowKit
open Mth
def rH (gi:Nat) (ids:List Int) (c:Nat→Nat):Nat→Nat:=fun x=>if x∈fp gi ids then 5 else c x
theorem Ya {gi x:Nat} {ids:List Int} {c:Nat→Nat} (h:x∈fp gi ids):rH gi ids c x=5:=if_pos h
theorem rV {gi x:Nat} {ids:List Int} {c:Nat→Nat} (h:x∉fp gi ids):rH gi ids c x=c x:=if_neg h
theorem lJ.store {w:World} {a:Option Addr} {g:Nat} {I:Nat→Nat} {l:List Sn} (h:lJ w a g I l) (k:Nat) (hk:k < l.length) (s:Sn) (b:Option Addr) (cc gi:Nat) (hi:WO w b cc gi s.ids) (hg4:∀x∈nT I l,x≠g) (hgi:∀x∈fp gi s.ids,x≠g):
 lJ (GR.setW w g (k*3) [.int .i64 s.f,.int .i64 s.l,.slice b s.ids.length cc]) a g (jQ I k gi) (l.set k s):=by
 obtain⟨⟨T,hT,hl,hr⟩,hy⟩:=h;have Li:k < T.length:=by omega
 have hkp:=aM (g:=g) [.int .i64 s.f,.int .i64 s.l,.slice b s.ids.length cc] w (k*3)
 refine⟨⟨T.set k ⟨s.f,s.l,.slice b s.ids.length cc⟩,GR.W.set bC hT k ⟨s.f,s.l,.slice b s.ids.length cc⟩ Li,by simpa using hl,fun i hi'=>?_⟩,fun _=>by
  obtain⟨cs,hc⟩:=hy (by omega)
  exact⟨_,GR.setW_blk [.int .i64 s.f,.int .i64 s.l,.slice b s.ids.length cc] (o:=k*3) (xs:=cs.toList) (by simpa using hc)⟩⟩
 exact aqJ
theorem NQ.seenPut {w:World} {B:Nat} {n:Nd} {A:bQ} {G:aX} {c:Nat→Nat} (h:NQ w B n A G c) (k:Nat) (hk:k < n.seen.length) (s:Sn) (b:Option Addr) (cc gi:Nat) (hi:WO w b cc gi s.ids) (h9:∀x∈fp gi s.ids,c x=9):
 NQ (GR.setW w G.s (k*3) [.int .i64 s.f,.int .i64 s.l,.slice b s.ids.length cc]) B (bn n (n.seen.set k s)) A ⟨G.k,G.p,G.o,G.s,G.r,jQ G.i k gi⟩ (rH gi s.ids c):=by
 have c4:c G.s=4:=h.c4 G.s (dz (by omega));have hkc:KC c 4 w (GR.setW w G.s (k*3) [.int .i64 s.f,.int .i64 s.l,.slice b s.ids.length cc]):=KC.setW _ c4;have hlen:(n.seen.set k s).length=n.seen.length:=List.length_set ..;have same:∀x,c x≠9→rH gi s.ids c x=c x:=fun x hx=>rV (fun hm=>hx (h9 x hm))
 have hSQ:lJ (GR.setW w G.s (k*3) [.int .i64 s.f,.int .i64 s.l,.slice b s.ids.length cc]) A.s G.s (jQ G.i k gi) (n.seen.set k s):=by
  refine h.sq.store k hk s b cc gi hi (fun x hx e=>?_) (fun x hx e=>?_)
  ·have:=h.ci x hx;rw [e,c4] at this;omega
  ·have:=h9 x hx;rw [e,c4] at this;omega
 refine⟨⟨hkc.w h.k h.ck (by omega),hkc.w h.p h.cp (by omega),hkc.own h.o h.co (by omega),hSQ.w,hkc.own h.r h.cr (by omega),?_,?_,?_,?_,?_,?_,?_,?_⟩,hSQ⟩
 ·intro x hx;have:=h.lo x hx;rw [same x (by omega)];exact this
 ·intro x hx;have:=h.ck x hx;rw [same x (by omega)];exact this
 ·intro x hx;have:=h.cp x hx;rw [same x (by omega)];exact this
 ·intro x hx;have:=h.co x hx;rw [same x (by omega)];exact this
 ·intro x hx;have hx':x∈fp G.s n.seen:=by rw [←Bl hlen];exact hx
  have:=h.c4 x hx';rw [same x (by omega)];exact this
 ·intro x hx;obtain⟨i,hi',rfl,hpos⟩:=qJ hx;by_cases e:i=k
  ·subst e
   have hpos':0 < s.ids.length:=by
    simp only[bn] at hpos;rw [List.getElem_set_self] at hpos;exact hpos
   have e:jQ G.i i gi i=gi:=if_pos rfl;show rH gi s.ids c (jQ G.i i gi i)=5
   rw [e];exact Ya (dz hpos')
  ·have e':jQ G.i k gi i=G.i i:=if_neg e;show rH gi s.ids c (jQ G.i k gi i)=5
   rw [e']
   have hpos':0 < (n.seen[i]'(by simpa [bn] using hi')).ids.length:=by
    simp only[bn] at hpos;rw [List.getElem_set_ne (by omega)] at hpos;exact hpos
   have:=h.ci _ (gM (by simpa [bn] using hi') _ (dz hpos'));rw [same _ (by omega)];exact this
 ·intro x hx;have:=h.cr x hx;rw [same x (by omega)];exact this
 ·refine(j6 _ _).2 (fun i j hi' hj' hij h1 h2=>?_);have hni:=(j6 _ _).1 h.ni;simp only[bn] at hi' hj' h1 h2;have hi2:i < n.seen.length:=by simpa using hi'
  have hj2:j < n.seen.length:=by simpa using hj'
  dsimp only[jQ];by_cases e1:i=k
  ·by_cases e2:j=k
   ·omega
   ·rw [if_pos e1,if_neg e2];subst e1;rw [List.getElem_set_self] at h1;rw [List.getElem_set_ne (by omega)] at h2;intro e;have a1:=h9 gi (dz h1);have a2:=h.ci _ (gM hj2 _ (dz h2));rw [←e] at a2;omega
  ·rw [if_neg e1];rw [List.getElem_set_ne (by omega)] at h1;by_cases e2:j=k
   ·rw [if_pos e2];subst e2;rw [List.getElem_set_self] at h2;intro e;have a1:=h9 gi (dz h2);have a2:=h.ci _ (gM hi2 _ (dz h1));rw [e] at a2;omega
   ·rw [if_neg e2];rw [List.getElem_set_ne (by omega)] at h2;exact hni i j hi2 hj2 hij h1 h2
def mU (s:Sn) (low:Int) (k:Nat):List Int:=(s.ids.take k).filter (fun x=>decide (bY s low≤x))
theorem yG (s:Sn) (low:Int):mU s low s.ids.length=aQ s low:=by unfold mU aQ;rw [List.take_length]
theorem Qn (s:Sn) (low:Int) (k:Nat) (hk:k < s.ids.length) (h:bY s low≤s.ids[k]):mU s low (k+1)=mU s low k++[s.ids[k]]:=by
 unfold mU;rw [List.take_succ_eq_append_getElem hk,List.filter_append,List.filter_cons_of_pos (by simpa using h)];rfl
theorem Ve (s:Sn) (low:Int) (k:Nat) (hk:k < s.ids.length) (h:¬bY s low≤s.ids[k]):mU s low (k+1)=mU s low k:=by
 unfold mU;rw [List.take_succ_eq_append_getElem hk,List.filter_append,List.filter_cons_of_neg (by simpa using h)];simp
theorem Qm (s:Sn) (low:Int) (k:Nat):(mU s low k).length≤k:=by
 unfold mU;exact Nat.le_trans (List.length_filter_le _ _) (by rw [List.length_take];omega)
theorem zW {w:World} {q:Nat} {B:Nat} {e:TypeId} {sz n:Nat} {v:Value} {xs:List Value} {o:Obj} (h:w.ownsRow B e sz v n xs):((w.drewN q).alloc o).ownsRow B e sz v n xs:=World.ownsRow.alloc (w:=w.drewN q) h o
theorem SE {α:Type} {en:α→List Value} {sz B:Nat} {w:World} {e:TypeId} {g cp:Nat} {l:List α} (hs:∀x,(en x).length=sz) (h:w.ownsRow B e sz (.slice (some ⟨g,0,none⟩) l.length cp) l.length (GR.flat en l)):GR.W en sz w (some ⟨g,0,none⟩) g l:=fun i hi=>by
 obtain⟨a,c',g',hv,hW,_,ho⟩:=GR.W.of_own hs h;simp only[Value.slice.injEq] at hv;obtain⟨rfl,_,_⟩:=hv;have hg:=ho g' (dz (by omega));simp[Value.ownBlock] at hg;subst hg;exact hW i hi
theorem L9 {w W' W'':World} {c:Nat→Nat} {ab:Nat} {a0 a1 a2 a3 a4:Int} {a5:ByteArray} {a6:Int} (h:W'.heap[ab]?=some (.cells #[.int .i64 a0,.int .i64 a1,.int .i64 a2,.int .i64 a3,.int .i64 a4,.string a5,.int .i64 a6] 32 (0,0))) (ho:Out c w W' W'') (hab:w.heap.size≤ab):GR.At je 7 W'' (some ⟨ab,0,none⟩) [⟨a0,a1,a2,a3,a4,a5,a6⟩]:=fun i hi=>by
 obtain⟨F,hk2,hF⟩:=ho;have hm2:=hk2.obj h (fun hx=>by have:=(hF ab hx).1;omega);refine⟨ab,0,rfl,aA hm2,fun j hj=>?_⟩;have hi0:i=0:=by simp at hi;omega
 subst hi0;have h1:=cell_of_row W'' ab (0+(0*7+j)) _ _ (0,0) hm2;rw [h1];simp[je]
theorem nZ (l:List Int):∀u∈GR.flat aP l,u.oneCell'=true:=GR.flat_oneCell (fun y u hu=>by simp at hu;subst hu;rfl) l
theorem VN {w w':World} {F:List Nat} {B:Nat} {e:TypeId} {sz n:Nat} {v:Value} {xs:List Value} (h:w.ownsRow B e sz v n xs) (hk:aC F w w') (hF:∀x,v.ownBlock=some x→x∉F):w'.ownsRow B e sz v n xs:=by
 refine⟨h.1,?_⟩;rcases h.2 with hn|⟨g,cap,cur,rfl,hb,hgg,rest⟩
 ·exact .inl hn
 ·exact .inr ⟨g,cap,cur,rfl,hb,hk.obj hgg (hF g rfl),rest⟩
theorem ar9 (l:List Int) (p:Int→Bool):(l.takeWhile p).length≤l.length:=(List.takeWhile_prefix p).length_le
theorem Vl (l:List Int) (x:Int):jy l x=l.take (l.takeWhile (fun y=>decide (y < x))).length++([x]++l.drop (l.takeWhile (fun y=>decide (y < x))).length):=by
 have h:=List.takeWhile_append_dropWhile (p:=fun y=>decide (y < x)) (l:=l);unfold jy;generalize l.takeWhile (fun y=>decide (y < x))=a at *;generalize l.dropWhile (fun y=>decide (y < x))=b at *;subst h;simp
theorem Wn {x:Int}:∀{l:List Int} {j:Nat},j≤l.length→(∀i (hi:i < l.length),i < j→l[i] < x)→(∀hj:j < l.length,¬l[j] < x)→(l.takeWhile (fun y=>decide (y < x))).length=j:=by
 intro l;induction l with
 |nil=>intro j hj _ _;simp at hj;simp[hj]
 |cons a l ih=>
  intro j hj h1 h2
  cases j with
  |zero=>
   have:=h2 (by simp)
   rw [List.takeWhile_cons_of_neg (by simpa using this)]
   rfl
  |succ j=>
   have h0:=h1 0 (by simp) (by omega)
   rw [List.takeWhile_cons_of_pos (by simpa using h0),List.length_cons,ih (by simpa using hj) (fun i hi hij=>h1 (i+1) (by simpa using hi) (by omega)) (fun hj'=>h2 (by simpa using hj'))]
theorem yX {w:World} {g:Nat} {v0 v1 v2:Value} {t:TypeId} (h:w.heap[g]?=some (.cells #[v0,v1,v2] t (0,0))):w.cell? ⟨g,0,none⟩=some v0∧w.cell? ⟨g,1,none⟩=some v1∧w.cell? ⟨g,2,none⟩=some v2:=
 ⟨by rw [cell_of_row w g _ _ t (0,0) h];rfl,by rw [cell_of_row w g _ _ t (0,0) h];rfl,by rw [cell_of_row w g _ _ t (0,0) h];rfl⟩
theorem VL {w:World} {a:Option Addr} {g:Nat} {I:Nat→Nat} {l:List Sn} (h:fq w a g I l) (hl:0 < l.length):g < w.heap.size:=by
 obtain⟨b,c,_,hg,_⟩:=fq.three h 0 hl;exact hg
theorem GU (n:Nd) (a_k iH dP dS fA:Option Addr) (aK bq aO aL aT:Nat) (G:aX) (c:Nat→Nat) (mK mF mT mI mL:Int) (mk:ByteArray) (mN:Int) (w:World) (B:Nat) (hB:B≤w.heap.size) (h9:∀x,6 < c x→c x=9) (i:Nat) (hi:i < n.seen.length) (s0:Sn) (hs0:n.seen[i]=s0) (hfi:s0.f=mF) (hbef:∀x (hx:x < n.seen.length),x < i→n.seen[x].f≠mF) (hsl:n.seen.length≤1000) (hil:s0.ids.length≤1000) (hhas:lT s0 mL mI=true) (h:NQ w B n (⟨a_k,iH,dP,dS,fA,aK,bq,aO,aL,aT⟩:bQ) G c):Calls Tryz.prog 97 #[fU n (⟨a_k,iH,dP,dS,fA,aK,bq,aO,aL,aT⟩:bQ),.agg #[.int .i64 mK,.int .i64 mF,.int .i64 mT,.int .i64 mI,.int .i64 mL,.string mk,.int .i64 mN]] w (eT w B c (bn n (n.seen.set i ⟨mF,bY s0 mL,aQ s0 mL⟩),[⟨2,n.id,mF,mI,0,ByteArray.empty,0⟩],0)):=by
 open anF in exact aaO
theorem KG (n:Nd) (a_k iH dP dS fA:Option Addr) (aK bq aO aL aT:Nat) (G:aX) (c:Nat→Nat) (mK mF mT mI mL:Int) (mk:ByteArray) (mN:Int) (w:World) (B:Nat) (hB:B≤w.heap.size) (h9:∀x,6 < c x→c x=9) (i:Nat) (hi:i < n.seen.length) (s0:Sn) (hs0:n.seen[i]=s0) (hfi:s0.f=mF) (hbef:∀x (hx:x < n.seen.length),x < i→n.seen[x].f≠mF) (hsl:n.seen.length≤1000) (hil:s0.ids.length≤1000) (hz:eF n 1048576) (hmk:mk.size≤1048576) (hP:∃g,iH=some ⟨g,0,none⟩) (qZ:n.pu.length≤bq) (RL:List Pu) (ok:Bool) (hu:cK n.pu mk 0 1 0 mN=(RL,ok)) (hhas:lT s0 mL mI=false) (hgn:ok=false∨40≤(aQ s0 mL).length) (h:NQ w B n (⟨a_k,iH,dP,dS,fA,aK,bq,aO,aL,aT⟩:bQ) G c):Calls Tryz.prog 97 #[fU n (⟨a_k,iH,dP,dS,fA,aK,bq,aO,aL,aT⟩:bQ),.agg #[.int .i64 mK,.int .i64 mF,.int .i64 mT,.int .i64 mI,.int .i64 mL,.string mk,.int .i64 mN]] w (eT w B c (bn n (n.seen.set i ⟨mF,bY s0 mL,aQ s0 mL⟩),[],1)):=by
 open agH in exact apK
theorem DX (n:Nd) (a_k iH dP dS fA:Option Addr) (aK bq aO aL aT:Nat) (G:aX) (c:Nat→Nat) (mK mF mT mI mL:Int) (mk:ByteArray) (mN:Int) (w:World) (B:Nat) (hB:B≤w.heap.size) (h9:∀x,6 < c x→c x=9) (i:Nat) (hi:i < n.seen.length) (s0:Sn) (hs0:n.seen[i]=s0) (hfi:s0.f=mF) (hbef:∀x (hx:x < n.seen.length),x < i→n.seen[x].f≠mF) (hsl:n.seen.length≤1000) (hil:s0.ids.length≤1000) (hz:eF n 1048576) (hmk:mk.size≤1048576) (hP:∃g,iH=some ⟨g,0,none⟩) (qZ:n.pu.length≤bq) (RL:List Pu) (hu:cK n.pu mk 0 1 0 mN=(RL,true)) (hhas:lT s0 mL mI=false) (hgn:(aQ s0 mL).length < 40) (h:NQ w B n (⟨a_k,iH,dP,dS,fA,aK,bq,aO,aL,aT⟩:bQ) G c):Calls Tryz.prog 97 #[fU n (⟨a_k,iH,dP,dS,fA,aK,bq,aO,aL,aT⟩:bQ),.agg #[.int .i64 mK,.int .i64 mF,.int .i64 mT,.int .i64 mI,.int .i64 mL,.string mk,.int .i64 mN]] w (eT w B c (bn (setPu n RL) (n.seen.set i ⟨mF,bY s0 mL,jy (aQ s0 mL) mI⟩),[⟨2,n.id,mF,mI,0,ByteArray.empty,0⟩],0)):=by
 open agG in exact apK

theorem Uh (y : Int) : 0 ≤ bits .and .i64 y 255 ∧ bits .and .i64 y 255 ≤ 255 := by
  have h : bits .and .i64 y 255 = IntKind.i64.wrap ((BitVec.ofInt 64 y &&& BitVec.ofInt 64 255).toNat : Int) := rfl
  have h2 : (BitVec.ofInt 64 y &&& BitVec.ofInt 64 255).toNat ≤ 255 := by
    rw [BitVec.toNat_and]
    exact Nat.le_trans Nat.and_le_right (by decide)
  rw [h, IntWalk.i64_in _ ⟨by omega, by omega⟩]
  omega

/-- A cursor in block c: over a code that lies ahead of it. -/
def rO (w : World) (c : Nat) : Prop :=
  ∃ (a : Option Addr) (len cap i : Nat) (h : Int), w.heap[c]? = some (.cells #[.slice a len cap, .int .i64 i, .int .i64 h] 64 (0, 0)) ∧ i ≤ len ∧ len ≤ 1048576 ∧
    (∀ j < len, ∃ (b off : Nat) (z : Int), a = some ⟨b, off, none⟩ ∧ b < c ∧ 0 ≤ z ∧ z ≤ 255 ∧ w.cell? ⟨b, off + j, none⟩ = some (.int .u8 z))
theorem rO.lt {w : World} {c : Nat} (h : rO w c) : c < w.heap.size := by
  obtain ⟨a, len, cap, i, hh, hb, _⟩ := h
  rcases Nat.lt_or_ge c w.heap.size with h' | h'
  · exact h'
  · rw [Array.getElem?_eq_none h'] at hb; cases hb
/-- It stays while nothing up to its block turns. -/
theorem rO.below {w w' : World} {c B : Nat} (h : rO w c) (hb : Below B w w') (hB : c < B) : rO w' c := by
  obtain ⟨a, len, cap, i, hh, hblk, h1, h2, h3⟩ := h
  refine ⟨a, len, cap, i, hh, by rw [hb.block c hB]; exact hblk, h1, h2, fun j hj => ?_⟩
  obtain ⟨b, off, z, e, hbc, z0, z1, hc⟩ := h3 j hj
  exact ⟨b, off, z, e, hbc, z0, z1, by rw [hb.cell (p := ⟨b, off + j, none⟩) (show b < B by omega)]; exact hc⟩

/-- A block written over. -/
theorem yw {w : World} {c : Nat} {cs : Array Value} {t : TypeId} (h : w.heap[c]? = some (.cells cs t (0, 0))) (i : Nat) (v : Value) : (w.setCell ⟨c, i, none⟩ v).heap[c]? = some (.cells (cs.setIfInBounds i v) t (0, 0)) := by
  unfold World.setCell
  simp only [Array.getElem?_modify]
  rw [if_pos trivial, h]
  rfl

/-- The cursor behind a draw. -/
theorem PO {w : World} {a : Option Addr} {c len cap i i' : Nat} {h h' : Int} (hblk : w.heap[c]? = some (.cells #[.slice a len cap, .int .i64 i, .int .i64 h] 64 (0, 0))) (hi : i' ≤ len) (hlen : len ≤ 1048576)
    (hcode : ∀ j < len, ∃ (b off : Nat) (z : Int), a = some ⟨b, off, none⟩ ∧ b < c ∧ 0 ≤ z ∧ z ≤ 255 ∧ w.cell? ⟨b, off + j, none⟩ = some (.int .u8 z)) :
    rO ((w.setCell ⟨c, 2, none⟩ (.int .i64 h')).setCell ⟨c, 1, none⟩ (.int .i64 (i' : Int))) c := by
  have h1 := yw (yw hblk 2 (.int .i64 h')) 1 (.int .i64 (i' : Int))
  refine ⟨a, len, cap, i', h', by simpa using h1, hi, hlen, fun j hj => ?_⟩
  obtain ⟨b, off, z, e, hbc, z0, z1, hc⟩ := hcode j hj
  refine ⟨b, off, z, e, hbc, z0, z1, ?_⟩
  rw [World.cell?_setCell_other _ _ _ _ (by intro e; have := congrArg Addr.block e; simp at this; omega), World.cell?_setCell_other _ _ _ _ (by intro e; have := congrArg Addr.block e; simp at this; omega)]
  exact hc
theorem Mh {w : World} {a : Option Addr} {c len cap i : Nat} {h h' : Int} (hblk : w.heap[c]? = some (.cells #[.slice a len cap, .int .i64 i, .int .i64 h] 64 (0, 0))) (hi : i ≤ len) (hlen : len ≤ 1048576)
    (hcode : ∀ j < len, ∃ (b off : Nat) (z : Int), a = some ⟨b, off, none⟩ ∧ b < c ∧ 0 ≤ z ∧ z ≤ 255 ∧ w.cell? ⟨b, off + j, none⟩ = some (.int .u8 z)) :
    rO (w.setCell ⟨c, 2, none⟩ (.int .i64 h')) c := by
  have h1 := yw hblk 2 (.int .i64 h')
  refine ⟨a, len, cap, i, h', by simpa using h1, hi, hlen, fun j hj => ?_⟩
  obtain ⟨b, off, z, e, hbc, z0, z1, hc⟩ := hcode j hj
  refine ⟨b, off, z, e, hbc, z0, z1, ?_⟩
  rw [World.cell?_setCell_other _ _ _ _ (by intro e; have := congrArg Addr.block e; simp at this; omega)]
  exact hc
theorem Keeps.drewN {c q : Nat} {w w' : World} (h : Keeps c w w') : Keeps c w (w'.drewN q) := ⟨h.os, h.tape, h.output, h.size, h.block⟩
theorem rO.drewN {c q : Nat} {w : World} (h : rO w c) : rO (w.drewN q) c := h

set_option maxRecDepth 100000 in
set_option maxHeartbeats 2000000 in
theorem wJ (c : Nat) (w : World) (hc : rO w c) :
    Calls Tryz.prog 56 #[.pointer (some ⟨c, 0, none⟩)] w fun e w' => ∃ x : Int, e = .returned (.int .i64 x) ∧ 0 ≤ x ∧ x ≤ 255 ∧ rO w' c ∧ Keeps c w w' := by
  obtain ⟨a, len, cap, i, h, hblk, hil, hlen, hcode⟩ := hc
  have c0 : w.cell? ⟨c, 0, none⟩ = some (.slice a len cap) := by rw [cell_of_row w c 0 _ _ (0, 0) hblk]; rfl
  have c1 : w.cell? ⟨c, 1, none⟩ = some (.int .i64 i) := by rw [cell_of_row w c 1 _ _ (0, 0) hblk]; rfl
  have c2 : w.cell? ⟨c, 2, none⟩ = some (.int .i64 h) := by rw [cell_of_row w c 2 _ _ (0, 0) hblk]; rfl
  have f1 : w.frozen? ⟨c, 1, none⟩ = false := by unfold World.frozen?; rw [hblk]; rfl
  have f2 : w.frozen? ⟨c, 2, none⟩ = false := by unfold World.frozen?; rw [hblk]; rfl
  have HB := hide hblk
  have D9 := hide hcode
  clear hblk hcode
  by_cases hlt : i < len
  · obtain ⟨b, off, z, rfl, hbc, z0, z1, hz⟩ := ah D9 i hlt
    have hne : b ≠ c := by omega
    open ajF in exact aqi
  · have hnlt : decide ((i : Int) < (len : Int)) = false := by simp; omega
    open ajE in exact aqi

/-- A cursor drawn on: it stays one, and all else stays. -/
theorem rO.keep_below {w w' : World} {c : Nat} (h : rO w c) (hb : Below w.heap.size w w') : rO w' c := h.below hb h.lt

set_option maxRecDepth 100000 in
set_option maxHeartbeats 1000000 in
theorem gT (c : Nat) (n : Int) (w : World) (hc : rO w c) (hn : 0 < n) (hm : n ≤ 4000000000) :
    Calls Tryz.prog 29 #[.pointer (some ⟨c, 0, none⟩), .int .i64 n] w fun e w' => ∃ x : Int, e = .returned (.int .i64 x) ∧ 0 ≤ x ∧ x < n ∧ rO w' c ∧ Keeps c w w' := by
  have HC := hide hc
  clear hc
  have hm1 : ∀ x : Int, 0 ≤ x → x % n < n := fun x _ => Int.emod_lt_of_pos x hn
  have hm2 : ∀ x : Int, 0 ≤ x % n := fun x => Int.emod_nonneg x (by omega)
  by_cases hs : n ≤ 256
  · open ao6 in exact abm
  · open ao5 in exact abm

set_option maxRecDepth 100000 in
set_option maxHeartbeats 1000000 in
theorem iA (c g cap : Nat) (zs : List Int) (w : World) (hc : rO w c) (hne : g ≠ c) (hp : 0 < zs.length) (hm : zs.length ≤ 1000) (hcell : ∀ i (hi : i < zs.length), w.cell? ⟨g, i, none⟩ = some (.int .i64 zs[i])) (hgl : g < w.heap.size) :
    Calls Tryz.prog 27 #[.pointer (some ⟨c, 0, none⟩), .slice (some ⟨g, 0, none⟩) zs.length cap] w fun e w' => ∃ z : Int, e = .returned (.int .i64 z) ∧ z ∈ zs ∧ rO w' c ∧ Keeps c w w' := by
  have HC := hide hc
  have HL := hide hcell
  clear hc hcell
  go_enter Tryz.func27, Tryz.ntmps27
  go_wp2_with fail
  refine (gT c _ _ (ah HC) (by omega) (by omega)).mono ?_
  rintro e w1 ⟨x, rfl, hx0, hx1, hc1, hk1⟩
  obtain ⟨k, rfl⟩ := Int.eq_ofNat_of_zero_le hx0
  have hk : k < zs.length := by omega
  have hcell1 : w1.cell? ⟨g, k, none⟩ = some (.int .i64 zs[k]) := (World.cell?_of_block (w := w) (hk1.block g hgl hne)).trans (ah HL k hk)
  have za := hide hc1
  clear hc1
  go_wp2
  go_ret
  exact ⟨_, rfl, List.getElem_mem hk, ah za, hk1⟩

set_option maxRecDepth 100000 in
set_option maxHeartbeats 1000000 in
theorem avu (a : Option Addr) (len cap : Nat) (w : World) (hlen : len ≤ 1048576) (hcode : ∀ j < len, ∃ (b off : Nat) (z : Int), a = some ⟨b, off, none⟩ ∧ b < w.heap.size ∧ 0 ≤ z ∧ z ≤ 255 ∧ w.cell? ⟨b, off + j, none⟩ = some (.int .u8 z)) :
    Calls Tryz.prog 10 #[.slice a len cap] w fun e w' => e = .returned (.pointer (some ⟨w.heap.size, 0, none⟩)) ∧ rO w' w.heap.size ∧ Below w.heap.size w w' := by
  have D9 := hide hcode
  clear hcode
  go_enter Tryz.func10, Tryz.ntmps10
  go_wp2
  go_loop [3, 4] (fun h i => ∃ (k : Nat) (x : Int), k ≤ len ∧ i = .int .i64 k ∧ h = .int .i64 x) (fun _ i => len - (intOf i).toNat)
  case atStart => exact ⟨0, _, Nat.zero_le _, rfl, rfl⟩
  case round =>
    obtain ⟨k, x, hk, rfl, rfl⟩ := hrel
    by_cases hlt : k < len
    · obtain ⟨b, off, z, rfl, hb, z0, z1, hz⟩ := ah D9 k hlt
      by_cases h4 : k < 4000
      · go_wp2
        go_round
        case rel => exact ⟨k + 1, _, by omega, by go_num, rfl⟩
        case measure => simp [intOf]; omega
      · exact aqL
    · have hd : decide ((k : Int) < (len : Int)) = false := by simp; omega
      exact aqL

theorem jh (w : World) (zs : List Int) (t : TypeId) (i : Nat) (hi : i < zs.length) : (w.alloc (.cells (zs.map (Value.int .i64)).toArray t)).cell? ⟨w.heap.size, i, none⟩ = some (.int .i64 zs[i]) := by
  rw [World.cell?_alloc_mark]; simp [hi]

theorem Vw (w : World) (xs : List ByteArray) (t : TypeId) (i : Nat) (hi : i < xs.length) : (w.alloc (.cells (xs.map Value.string).toArray t)).cell? ⟨w.heap.size, i, none⟩ = some (.string xs[i]) := by
  rw [World.cell?_alloc_mark]; simp [hi]

theorem ku {c : Nat} {w : World} (o : Obj) : Keeps c w (w.alloc o) := Keeps.of_below ((Below.refl _ _).alloc (Nat.le_refl _) _)

theorem gZ {c : Nat} {w : World} (h : rO w c) (o : Obj) : rO (w.alloc o) c := h.keep_below ((Below.refl _ _).alloc (Nat.le_refl _) _)

/-- What every draw is told of the code: its length, and that its bytes can be read. -/
def EP (w : World) (a : Option Addr) (len : Nat) : Prop := len ≤ 1048576 ∧ ∀ j < len, ∃ (b off : Nat) (z : Int), a = some ⟨b, off, none⟩ ∧ b < w.heap.size ∧ 0 ≤ z ∧ z ≤ 255 ∧ w.cell? ⟨b, off + j, none⟩ = some (.int .u8 z)

theorem EP.below {w w' : World} {a : Option Addr} {len : Nat} (h : EP w a len) (hb : Below w.heap.size w w') : EP w' a len := by
  refine ⟨h.1, fun j hj => ?_⟩
  obtain ⟨b, off, z, e, hbl, z0, z1, hc⟩ := h.2 j hj
  exact ⟨b, off, z, e, Nat.lt_of_lt_of_le hbl hb.size, z0, z1, by rw [hb.cell (p := ⟨b, off + j, none⟩) hbl]; exact hc⟩

theorem PN {w w1 w2 : World} (h : Below w.heap.size w w1) (k : Keeps w.heap.size w1 w2) : Below w.heap.size w w2 := h.trans (k.below (Nat.le_refl _) h.size)
end Go.Proofs.YtfmdndhliinhpaaGreatDoor
