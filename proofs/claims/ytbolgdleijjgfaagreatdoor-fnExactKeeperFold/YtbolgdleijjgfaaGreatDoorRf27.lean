/- Parts. -/
import Derived.Test.YtbolgdleijjgfaaGreatDoorRf22
import Derived.Test.YtbolgdleijjgfaaGreatDoorRf20
import Derived.Test.YtbolgdleijjgfaaGreatDoorRf24
namespace Go.Proofs.YtbolgdleijjgfaaGreatDoor
open Go.Proofs.Tryz
open Go.RowKit
open Mth
namespace Mth
def aDC (id par:Int) (kids fs:List Int):Nd:=⟨id,par,kids,1,[],[],fs.map (λx=>⟨x,1,[]⟩),0,[]⟩
def aDv:Nd:=⟨0,0,[],0,[],[],[],0,[]⟩
end Mth
def aDk (x:Int):R3:=⟨x,1,.slice none 0 0⟩
abbrev nnc (id par:Int) (kv v:Value):Array Value:=#[.int .i64 id,.int .i64 par,kv,.int .i64 1,.slice none 0 0,.slice none 0 0,v,.int .i64 0,.slice none 0 0]
structure NN (w2 wr:World) (nb:Nat) (id par:Int) (kv v:Value) (fs:List Int):Prop where
 keep:aA [nb] w2 wr
 blk:wr.heap[nb]?=some (.cells (nnc id par kv v) 39 (0,0))
 own:wr.ownsRow w2.heap.size 130 3 v fs.length (GR.flat eX (fs.map aDk))
 lt:nb < w2.heap.size
abbrev lC:Array Value:=(wC 0 0 none 0 0 0 none 0 0 none 0 0 none 0 0 0 none 0 0)
section
variable {v0 v1 v2 v3 v4 v5 v6 v7 v8:Value} {g:Nat}
theorem iT {w:World} {t:TypeId} (h:w.heap[g]?=some (.cells #[v0,v1,v2,v3,v4,v5,v6,v7,v8] t (0,0))):(w.cell? ⟨g,0,none⟩=some v0/\w.cell? ⟨g,1,none⟩=some v1/\w.cell? ⟨g,2,none⟩=some v2/\w.cell? ⟨g,3,none⟩=some v3/\w.cell? ⟨g,4,none⟩=some v4/\w.cell? ⟨g,5,none⟩=some v5/\w.cell? ⟨g,6,none⟩=some v6/\w.cell? ⟨g,7,none⟩=some v7/\w.cell? ⟨g,8,none⟩=some v8)/\w.frozen? ⟨g,0,none⟩=false/\w.frozen? ⟨g,1,none⟩=false/\w.frozen? ⟨g,2,none⟩=false/\w.frozen? ⟨g,3,none⟩=false/\w.frozen? ⟨g,4,none⟩=false/\w.frozen? ⟨g,5,none⟩=false/\w.frozen? ⟨g,6,none⟩=false/\w.frozen? ⟨g,7,none⟩=false/\w.frozen? ⟨g,8,none⟩=false:=
 ⟨nine h,pJ h⟩
variable {fn:Func} {R:Ending->World->Prop} {W:World} {act:Act}
theorem GK {u0 u1 u2 u3 u4 u5 u6 u7 u8:Value} (hb:W.heap[g]?=some (.cells #[u0,u1,u2,u3,u4,u5,u6,u7,u8] 39 (0,0))):(((((((((W.setCell ⟨g,0,none⟩ v0).setCell ⟨g,1,none⟩ v1).setCell ⟨g,2,none⟩ v2).setCell ⟨g,3,none⟩ v3).setCell ⟨g,4,none⟩ v4).setCell ⟨g,5,none⟩ v5).setCell ⟨g,6,none⟩ v6).setCell ⟨g,7,none⟩ v7).setCell ⟨g,8,none⟩ v8).heap[g]?=some (.cells #[v0,v1,v2,v3,v4,v5,v6,v7,v8] 39 (0,0))/\aA [g] W (((((((((W.setCell ⟨g,0,none⟩ v0).setCell ⟨g,1,none⟩ v1).setCell ⟨g,2,none⟩ v2).setCell ⟨g,3,none⟩ v3).setCell ⟨g,4,none⟩ v4).setCell ⟨g,5,none⟩ v5).setCell ⟨g,6,none⟩ v6).setCell ⟨g,7,none⟩ v7).setCell ⟨g,8,none⟩ v8):=
 ⟨GR.setW_blk [v0,v1,v2,v3,v4,v5,v6,v7,v8] (o:=0) (xs:=[u0,u1,u2,u3,u4,u5,u6,u7,u8]) hb,gI [v0,v1,v2,v3,v4,v5,v6,v7,v8] W 0⟩
theorem azV {u0 u1 u2 u3 u4 u5 u6 u7 u8:Value} {c:Code} {Q:Exit->Act->World->Prop} (hb:W.heap[g]?=some (.cells #[u0,u1,u2,u3,u4,u5,u6,u7,u8] 39 (0,0))) (h:∀X,X.heap[g]?=some (.cells #[v0,v1,v2,v3,v4,v5,v6,v7,v8] 39 (0,0))->aA [g] W X->c.wp Tryz.prog Q act X):c.wp Tryz.prog Q act (((((((((W.setCell ⟨g,0,none⟩ v0).setCell ⟨g,1,none⟩ v1).setCell ⟨g,2,none⟩ v2).setCell ⟨g,3,none⟩ v3).setCell ⟨g,4,none⟩ v4).setCell ⟨g,5,none⟩ v5).setCell ⟨g,6,none⟩ v6).setCell ⟨g,7,none⟩ v7).setCell ⟨g,8,none⟩ v8):=
 h _ (GK hb).1 (GK hb).2
theorem qg {p:Nat} (hf:fn.results=#[.cell p 39]) (hp:act.eval (.tmp p)= .pointer (some ⟨g,0,none⟩)) (hd:act.defers=[]) (hb:W.heap[g]?=some (.cells lC 39 (0,0)))
 (h:∀W',W'.heap[g]?=some (.cells #[v0,v1,v2,v3,v4,v5,v6,v7,v8] 39 (0,0))->aA [g] W W'->(∀x,x≠g->W'.heap[x]?=W.heap[x]?)->W.heap.size=W'.heap.size->R (.returned (.agg #[v0,v1,v2,v3,v4,v5,v6,v7,v8])) W'):bodyPost Tryz.prog fn R .ret act (((((((((W.setCell ⟨g,0,none⟩ v0).setCell ⟨g,1,none⟩ v1).setCell ⟨g,2,none⟩ v2).setCell ⟨g,3,none⟩ v3).setCell ⟨g,4,none⟩ v4).setCell ⟨g,5,none⟩ v5).setCell ⟨g,6,none⟩ v6).setCell ⟨g,7,none⟩ v7).setCell ⟨g,8,none⟩ v8):=by
 obtain⟨e,k⟩:=GK (v0:=v0) (v1:=v1) (v2:=v2) (v3:=v3) (v4:=v4) (v5:=v5) (v6:=v6) (v7:=v7) (v8:=v8) hb;have hs:∀x,x≠g->(((((((((W.setCell ⟨g,0,none⟩ v0).setCell ⟨g,1,none⟩ v1).setCell ⟨g,2,none⟩ v2).setCell ⟨g,3,none⟩ v3).setCell ⟨g,4,none⟩ v4).setCell ⟨g,5,none⟩ v5).setCell ⟨g,6,none⟩ v6).setCell ⟨g,7,none⟩ v7).setCell ⟨g,8,none⟩ v8).heap[x]?=W.heap[x]?:=λx hx=>GR.setW_other hx [v0,v1,v2,v3,v4,v5,v6,v7,v8] (o:=0)
 have hz:W.heap.size=(((((((((W.setCell ⟨g,0,none⟩ v0).setCell ⟨g,1,none⟩ v1).setCell ⟨g,2,none⟩ v2).setCell ⟨g,3,none⟩ v3).setCell ⟨g,4,none⟩ v4).setCell ⟨g,5,none⟩ v5).setCell ⟨g,6,none⟩ v6).setCell ⟨g,7,none⟩ v7).setCell ⟨g,8,none⟩ v8).heap.size:=(GJ [v0,v1,v2,v3,v4,v5,v6,v7,v8] W 0).symm;open aob in exact ajS
theorem kR {p q:Nat} {u1:Value} (hf:fn.results=#[.cell p 39,.tmp q]) (hp:act.eval (.tmp p)= .pointer (some ⟨g,0,none⟩)) (hq:act.eval (.tmp q)=u1) (hd:act.defers=[]) (hb:W.heap[g]?=some (.cells lC 39 (0,0)))
 (h:∀W',W'.heap[g]?=some (.cells #[v0,v1,v2,v3,v4,v5,v6,v7,v8] 39 (0,0))->aA [g] W W'->R (.returned (.tuple #[.agg #[v0,v1,v2,v3,v4,v5,v6,v7,v8],u1])) W'):bodyPost Tryz.prog fn R .ret act (((((((((W.setCell ⟨g,0,none⟩ v0).setCell ⟨g,1,none⟩ v1).setCell ⟨g,2,none⟩ v2).setCell ⟨g,3,none⟩ v3).setCell ⟨g,4,none⟩ v4).setCell ⟨g,5,none⟩ v5).setCell ⟨g,6,none⟩ v6).setCell ⟨g,7,none⟩ v7).setCell ⟨g,8,none⟩ v8):=by
 obtain⟨e,k⟩:=GK (v0:=v0) (v1:=v1) (v2:=v2) (v3:=v3) (v4:=v4) (v5:=v5) (v6:=v6) (v7:=v7) (v8:=v8) hb;open aoa in exact ajS
theorem eP {p q r:Nat} {u1 u2:Value} (hf:fn.results=#[.cell p 39,.tmp q,.tmp r]) (hp:act.eval (.tmp p)= .pointer (some ⟨g,0,none⟩)) (hq:act.eval (.tmp q)=u1) (hr:act.eval (.tmp r)=u2) (hd:act.defers=[]) (hb:W.heap[g]?=some (.cells lC 39 (0,0)))
 (h:∀W',W'.heap[g]?=some (.cells #[v0,v1,v2,v3,v4,v5,v6,v7,v8] 39 (0,0))->aA [g] W W'->R (.returned (.tuple #[.agg #[v0,v1,v2,v3,v4,v5,v6,v7,v8],u1,u2])) W'):bodyPost Tryz.prog fn R .ret act (((((((((W.setCell ⟨g,0,none⟩ v0).setCell ⟨g,1,none⟩ v1).setCell ⟨g,2,none⟩ v2).setCell ⟨g,3,none⟩ v3).setCell ⟨g,4,none⟩ v4).setCell ⟨g,5,none⟩ v5).setCell ⟨g,6,none⟩ v6).setCell ⟨g,7,none⟩ v7).setCell ⟨g,8,none⟩ v8):=by
 obtain⟨e,k⟩:=GK (v0:=v0) (v1:=v1) (v2:=v2) (v3:=v3) (v4:=v4) (v5:=v5) (v6:=v6) (v7:=v7) (v8:=v8) hb;open an9 in exact ajS
end
end Go.Proofs.YtbolgdleijjgfaaGreatDoor
