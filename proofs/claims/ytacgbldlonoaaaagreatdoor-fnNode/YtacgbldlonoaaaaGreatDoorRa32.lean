/- Parts. -/
import Derived.Test.YtacgbldlonoaaaaGreatDoorRa31
namespace Go.Proofs.YtacgbldlonoaaaaGreatDoor
set_option maxHeartbeats 8000000
set_option maxRecDepth 100000
open Go.RowKit
open Mth
def qD {α:Type} (en:α→List Value) (sz lo:Nat) (W:World) (a:Option Addr) (l:List α):Prop:=GR.At en sz W a l∧∀g off,a=some ⟨g,off,none⟩→lo≤g
theorem qD.keeps {α:Type} {en:α→List Value} {sz lo:Nat} {W W':World} {a:Option Addr} {l:List α} {F:List Nat} (h:qD en sz lo W a l) (hk:aC F W W') (hF:∀x∈F,x < lo):qD en sz lo W' a l:=
 ⟨fun i hi=>by
  obtain⟨g,off,e,hg,hc⟩:=h.1 i hi
  have hlo:=h.2 g off e
  have hb:=hk.block g hg (fun hm=>by have:=hF g hm;omega)
  exact⟨g,off,e,Nat.lt_of_lt_of_le hg hk.size,fun j hj=>(World.cell?_of_block (w:=W) hb).trans (hc j hj)⟩,h.2⟩
theorem qD.below {α:Type} {en:α→List Value} {sz lo:Nat} {W W':World} {a:Option Addr} {l:List α} (h:qD en sz lo W a l) (hb:Below W.heap.size W W'):qD en sz lo W' a l:=⟨GR.At.below h.1 hb,h.2⟩
theorem qD.lower {α:Type} {en:α→List Value} {sz lo lo':Nat} {W:World} {a:Option Addr} {l:List α} (h:qD en sz lo W a l) (hl:lo'≤lo):qD en sz lo' W a l:=⟨h.1,fun g off e=>Nat.le_trans hl (h.2 g off e)⟩
theorem qD.out {α:Type} {en:α→List Value} {sz lo:Nat} {w W' W'':World} {a:Option Addr} {l:List α} {c:Nat→Nat} (h:qD en sz lo W' a l) (hlo:w.heap.size≤lo) (ho:Out c w W' W''):GR.At en sz W'' a l:=by
 obtain⟨F,hk,hF⟩:=ho;exact(h.keeps hk (fun x hx=>by have:=(hF x hx).1;omega)).1
theorem qD.own {α:Type} {en:α→List Value} {sz lo:Nat} {W:World} {e:TypeId} {a:Option Addr} {cp:Nat} {l:List α} (hs:∀x,(en x).length=sz) (h:W.ownsRow lo e sz (.slice a l.length cp) l.length (GR.flat en l)):qD en sz lo W a l:=by
 obtain⟨a',c',hv,hat⟩:=GR.own_at hs h;simp only[Value.slice.injEq] at hv;obtain⟨rfl,_,_⟩:=hv;refine⟨hat,fun g off e'=>?_⟩;subst e';exact(h.lt g rfl).1
def LO {α:Type} (e:TypeId) (en:α→List Value) (sz lo:Nat) (W:World) (a:Option Addr) (cp:Nat) (l:List α):Prop:=W.ownsRow lo e sz (.slice a l.length cp) l.length (GR.flat en l)
theorem LO.own {α:Type} {e:TypeId} {en:α→List Value} {sz lo:Nat} {W:World} {a:Option Addr} {cp:Nat} {l:List α} (h:W.ownsRow lo e sz (.slice a l.length cp) l.length (GR.flat en l)):LO e en sz lo W a cp l:=h
theorem LO.lies {α:Type} {e:TypeId} {en:α→List Value} {sz lo:Nat} {W:World} {a:Option Addr} {cp:Nat} {l:List α} (h:LO e en sz lo W a cp l) (hs:∀x,(en x).length=sz):qD en sz lo W a l:=qD.own hs h
theorem LO.keeps {α:Type} {e:TypeId} {en:α→List Value} {sz lo:Nat} {W W':World} {a:Option Addr} {cp:Nat} {l:List α} {F:List Nat} (h:LO e en sz lo W a cp l) (hk:aC F W W') (hF:∀x∈F,x < lo):LO e en sz lo W' a cp l:=cK h hk hF
theorem LO.below {α:Type} {e:TypeId} {en:α→List Value} {sz lo:Nat} {W W':World} {a:Option Addr} {cp:Nat} {l:List α} (h:LO e en sz lo W a cp l) (hb:Below W.heap.size W W'):LO e en sz lo W' a cp l:=GR.own_below h hb
theorem LO.lower {α:Type} {e:TypeId} {en:α→List Value} {sz lo lo':Nat} {W:World} {a:Option Addr} {cp:Nat} {l:List α} (h:LO e en sz lo W a cp l) (hl:lo'≤lo):LO e en sz lo' W a cp l:=GR.own_lower h hl
theorem LO.out {α:Type} {e:TypeId} {en:α→List Value} {sz lo:Nat} {w W' W'':World} {a:Option Addr} {cp:Nat} {l:List α} {c:Nat→Nat} (h:LO e en sz lo W' a cp l) (hlo:w.heap.size≤lo) (ho:Out c w W' W''):LO e en sz lo W'' a cp l:=by
 obtain⟨F,hk,hF⟩:=ho;exact h.keeps hk (fun x hx=>by have:=(hF x hx).1;omega)
theorem LO.lo {α:Type} {e:TypeId} {en:α→List Value} {sz lo:Nat} {W:World} {a:Option Addr} {cp x:Nat} {l:List α} (h:LO e en sz lo W a cp l) (hx:(Value.slice a l.length cp).ownBlock=some x):lo≤x:=pU h hx
theorem LO.ne {α β:Type} {e e':TypeId} {en:α→List Value} {en':β→List Value} {sz sz' lo lo':Nat} {W:World} {a a':Option Addr} {cp cp' x:Nat} {l:List α} {l':List β} (h:LO e en sz lo W a cp l) (h':LO e' en' sz' lo' W a' cp' l') (hne:e≠e') (hx:(Value.slice a l.length cp).ownBlock=some x):(Value.slice a' l'.length cp').ownBlock≠some x:=fun hx'=>by
 rcases h.2 with⟨hv,_⟩|⟨g,cap,cur,hv,_,hgg,_⟩
 ·rw [hv] at hx;simp[Value.ownBlock] at hx
 ·rcases h'.2 with⟨hv',_⟩|⟨g',cap',cur',hv',_,abp,_⟩
  ·rw [hv'] at hx';simp[Value.ownBlock] at hx'
  ·rw [hv] at hx;rw [hv'] at hx';have e1:g=x:=by simpa [Value.ownBlock] using hx
   have e2:g'=x:=by simpa [Value.ownBlock] using hx'
   rw [e1] at hgg;rw [e2,hgg] at abp;simp only[Option.some.injEq,Obj.cells.injEq] at abp;exact hne abp.2.1
theorem GR.At.take {α:Type} {en:α→List Value} {sz:Nat} {w:World} {a:Option Addr} {l:List α} (h:GR.At en sz w a l) (k:Nat):GR.At en sz w a (l.take k):=fun i hi=>by
 have hi':i < l.length:=by rw [List.length_take] at hi;omega
 obtain⟨g,off,e,hg,hc⟩:=h i hi';exact⟨g,off,e,hg,fun j hj=>by rw [hc j hj,List.getElem_take]⟩
theorem GR.At.drop {α:Type} {en:α→List Value} {sz g0:Nat} {w:World} {l:List α} (h:GR.At en sz w (some ⟨g0,0,none⟩) l) (k:Nat):GR.At en sz w (some ⟨g0,k*sz,none⟩) (l.drop k):=fun i hi=>by
 have hi':k+i < l.length:=by rw [List.length_drop] at hi;omega
 obtain⟨g,off,e,hg,hc⟩:=h (k+i) hi';cases e
 exact⟨g0,k*sz,rfl,hg,fun j hj=>by rw [List.getElem_drop,←hc j hj,Nat.add_mul];congr 2;omega⟩
theorem fI {w:World} {g g' i:Nat} {o:Obj} (v:Value) (hne:g'≠g) (h:w.heap[g']?=some o):(w.setCell ⟨g,i,none⟩ v).heap[g']?=some o:=(Below.heap_setCell _ _ _ _ hne).trans h
theorem vX (n:Nd) (a_k iy dA dJ fq:Option Addr) (aI bf aM aJ aQ:Nat) (G:aU) (c:Nat→Nat) (K no:Int) (k:ByteArray) (nn mK mF mT mI mL:Int) (mk:ByteArray) (mN:Int) (w:World) (B:Nat) (hB:B≤w.heap.size) (h9:∀x,6 < c x→c x=9) (hz:eH n 1048576) (hkz:k.size≤1048576) (hP:∃g,iy=some ⟨g,0,none⟩) (qd:n.pu.length≤bf) (hR:∃g,fq=some ⟨g,0,none⟩) (hRc:n.reqs.length≤aQ) (hok:fQ n=true) (hs:¬no≤n.old) (hf:kK n.reqs no=false) (RL:List Pu) (hu:bV n.pu k 0 (-1) 1 nn=(RL,true)) (h:NQ w B n (⟨a_k,iy,dA,dJ,fq,aI,bf,aM,aJ,aQ⟩:bE) G c):Calls Tryz.prog 39 #[gu n (⟨a_k,iy,dA,dJ,fq,aI,bf,aM,aJ,aQ⟩:bE),.agg #[.int .i64 K,.int .i64 no,.string k,.int .i64 nn,.int .i64 mK,.int .i64 mF,.int .i64 mT,.int .i64 mI,.int .i64 mL,.string mk,.int .i64 mN]] w (gG w B c (jO (setPu n RL) ⟨no,k,nn,0⟩,0)):=by
 open afq in exact amf
theorem uy (n:Nd) (a_k iy dA dJ fq:Option Addr) (aI bf aM aJ aQ:Nat) (G:aU) (c:Nat→Nat) (K no:Int) (k:ByteArray) (nn mK mF mT mI mL:Int) (mk:ByteArray) (mN:Int) (w:World) (B:Nat) (hB:B≤w.heap.size) (h9:∀x,6 < c x→c x=9) (hz:eH n 1048576) (hkz:k.size≤1048576) (hP:∃g,iy=some ⟨g,0,none⟩) (qd:n.pu.length≤bf) (hR:∃g,fq=some ⟨g,0,none⟩) (hRc:n.reqs.length≤aQ) (hok:fQ n=true) (hs:¬no≤n.old) (hf:kK n.reqs no=false) (RL:List Pu) (hu:bV n.pu k 0 (-1) 1 nn=(RL,false)) (h:NQ w B n (⟨a_k,iy,dA,dJ,fq,aI,bf,aM,aJ,aQ⟩:bE) G c):Calls Tryz.prog 39 #[gu n (⟨a_k,iy,dA,dJ,fq,aI,bf,aM,aJ,aQ⟩:bE),.agg #[.int .i64 K,.int .i64 no,.string k,.int .i64 nn,.int .i64 mK,.int .i64 mF,.int .i64 mT,.int .i64 mI,.int .i64 mL,.string mk,.int .i64 mN]] w (gG w B c (jO n ⟨no,k,nn,1⟩,1)):=by
 open afp in exact amf
end Go.Proofs.YtacgbldlonoaaaaGreatDoor
