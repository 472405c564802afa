/- Parts. -/
import Derived.Test.YtppmcficiphgdaaGreatDoorQa1
import Derived.Test.YtppmcficiphgdaaGreatDoorQb6
import Derived.Test.YtppmcficiphgdaaGreatDoorQb1
import Derived.Test.YtppmcficiphgdaaGreatDoorQbZ3
import Derived.Deep.CutBlock
import Derived.Deep.AppendLies
namespace Go.Proofs.YtppmcficiphgdaaGreatDoor
set_option maxHeartbeats 8000000
set_option maxRecDepth 100000
open Go.RowKit
open Mth
def Lies {α:Type} (en:α→List Value) (sz lo:Nat) (W:World) (a:Option Addr) (l:List α):Prop:=GR.At en sz W a l∧∀g off,a=some ⟨g,off,none⟩→lo≤g
theorem Lies.keeps {α:Type} {en:α→List Value} {sz lo:Nat} {W W':World} {a:Option Addr} {l:List α} {F:List Nat} (h:Lies en sz lo W a l) (hk:KeepsL F W W') (hF:∀x∈F,x < lo):Lies en sz lo W' a l:=
 ⟨fun i hi=>by
  obtain⟨g,off,e,hg,hc⟩:=h.1 i hi
  have hlo:=h.2 g off e
  have hb:=hk.block g hg (fun hm=>by have:=hF g hm;omega)
  exact⟨g,off,e,Nat.lt_of_lt_of_le hg hk.size,fun j hj=>(World.cell?_of_block (w:=W) hb).trans (hc j hj)⟩,h.2⟩
theorem Lies.below {α:Type} {en:α→List Value} {sz lo:Nat} {W W':World} {a:Option Addr} {l:List α} (h:Lies en sz lo W a l) (hb:Below W.heap.size W W'):Lies en sz lo W' a l:=⟨GR.At.below h.1 hb,h.2⟩
theorem Lies.lower {α:Type} {en:α→List Value} {sz lo lo':Nat} {W:World} {a:Option Addr} {l:List α} (h:Lies en sz lo W a l) (hl:lo'≤lo):Lies en sz lo' W a l:=⟨h.1,fun g off e=>Nat.le_trans hl (h.2 g off e)⟩
theorem Lies.out {α:Type} {en:α→List Value} {sz lo:Nat} {w W' W'':World} {a:Option Addr} {l:List α} {c:Nat→Nat} (h:Lies en sz lo W' a l) (hlo:w.heap.size≤lo) (ho:Out c w W' W''):GR.At en sz W'' a l:=by
 obtain⟨F,hk,hF⟩:=ho;exact(h.keeps hk (fun x hx=>by have:=(hF x hx).1;omega)).1
theorem Lies.own {α:Type} {en:α→List Value} {sz lo:Nat} {W:World} {e:TypeId} {a:Option Addr} {cp:Nat} {l:List α} (hs:∀x,(en x).length=sz) (h:W.ownsRow lo e sz (.slice a l.length cp) l.length (GR.flat en l)):Lies en sz lo W a l:=by
 obtain⟨a',c',hv,hat⟩:=GR.own_at hs h;simp only[Value.slice.injEq] at hv;obtain⟨rfl,_,_⟩:=hv;refine⟨hat,fun g off e'=>?_⟩;subst e';exact(h.lt g rfl).1
theorem GR.At.take {α:Type} {en:α→List Value} {sz:Nat} {w:World} {a:Option Addr} {l:List α} (h:GR.At en sz w a l) (k:Nat):GR.At en sz w a (l.take k):=fun i hi=>by
 have hi':i < l.length:=by rw [List.length_take] at hi;omega
 obtain⟨g,off,e,hg,hc⟩:=h i hi';exact⟨g,off,e,hg,fun j hj=>by rw [hc j hj,List.getElem_take]⟩
theorem GR.At.drop {α:Type} {en:α→List Value} {sz g0:Nat} {w:World} {l:List α} (h:GR.At en sz w (some ⟨g0,0,none⟩) l) (k:Nat):GR.At en sz w (some ⟨g0,k*sz,none⟩) (l.drop k):=fun i hi=>by
 have hi':k+i < l.length:=by rw [List.length_drop] at hi;omega
 obtain⟨g,off,e,hg,hc⟩:=h (k+i) hi';cases e
 exact⟨g0,k*sz,rfl,hg,fun j hj=>by rw [List.getElem_drop,←hc j hj,Nat.add_mul];congr 2;omega⟩
theorem obj_set {w:World} {g g' i:Nat} {o:Obj} (v:Value) (hne:g'≠g) (h:w.heap[g']?=some o):(w.setCell ⟨g,i,none⟩ v).heap[g']?=some o:=(Below.heap_setCell _ _ _ _ hne).trans h
theorem specAdm_keep_true (n:Nd) (a_k a_p a_o a_s a_r:Option Addr) (a_ck a_cp a_co a_cs a_cr:Nat) (G:Blks) (c:Nat→Nat) (K no:Int) (k:ByteArray) (nn mK mF mT mI mL:Int) (mk:ByteArray) (mN:Int) (w:World) (B:Nat) (hB:B≤w.heap.size) (h9:∀x,6 < c x→c x=9) (hz:NdSz n 1048576) (hkz:k.size≤1048576) (hP:∃g,a_p=some ⟨g,0,none⟩) (hPc:n.pu.length≤a_cp) (hR:∃g,a_r=some ⟨g,0,none⟩) (hRc:n.reqs.length≤a_cr) (hok:reqsB n=true) (hs:¬no≤n.old) (hf:reqF n.reqs no=false) (RL:List Pu) (hu:addP n.pu k 0 (-1) 1 nn=(RL,true)) (h:NO w B n (⟨a_k,a_p,a_o,a_s,a_r,a_ck,a_cp,a_co,a_cs,a_cr⟩:Ads) G c):Calls Tryz.prog 59 #[ndv n (⟨a_k,a_p,a_o,a_s,a_r,a_ck,a_cp,a_co,a_cs,a_cr⟩:Ads),.agg #[.int .i64 K,.int .i64 no,.string k,.int .i64 nn,.int .i64 mK,.int .i64 mF,.int .i64 mT,.int .i64 mI,.int .i64 mL,.string mk,.int .i64 mN]] w (GivesR w B c (keepN (setPu n RL) ⟨no,k,nn,0⟩,0)):=by
 open Sb176 in exact Yb44
theorem specAdm_keep_false (n:Nd) (a_k a_p a_o a_s a_r:Option Addr) (a_ck a_cp a_co a_cs a_cr:Nat) (G:Blks) (c:Nat→Nat) (K no:Int) (k:ByteArray) (nn mK mF mT mI mL:Int) (mk:ByteArray) (mN:Int) (w:World) (B:Nat) (hB:B≤w.heap.size) (h9:∀x,6 < c x→c x=9) (hz:NdSz n 1048576) (hkz:k.size≤1048576) (hP:∃g,a_p=some ⟨g,0,none⟩) (hPc:n.pu.length≤a_cp) (hR:∃g,a_r=some ⟨g,0,none⟩) (hRc:n.reqs.length≤a_cr) (hok:reqsB n=true) (hs:¬no≤n.old) (hf:reqF n.reqs no=false) (RL:List Pu) (hu:addP n.pu k 0 (-1) 1 nn=(RL,false)) (h:NO w B n (⟨a_k,a_p,a_o,a_s,a_r,a_ck,a_cp,a_co,a_cs,a_cr⟩:Ads) G c):Calls Tryz.prog 59 #[ndv n (⟨a_k,a_p,a_o,a_s,a_r,a_ck,a_cp,a_co,a_cs,a_cr⟩:Ads),.agg #[.int .i64 K,.int .i64 no,.string k,.int .i64 nn,.int .i64 mK,.int .i64 mF,.int .i64 mT,.int .i64 mI,.int .i64 mL,.string mk,.int .i64 mN]] w (GivesR w B c (keepN n ⟨no,k,nn,1⟩,1)):=by
 open Sb175 in exact Yb44
end Go.Proofs.YtppmcficiphgdaaGreatDoor
