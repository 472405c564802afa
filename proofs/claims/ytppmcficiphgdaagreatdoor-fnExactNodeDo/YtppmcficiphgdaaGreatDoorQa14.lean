/-
  AppW, NdApp, NdSay2, NdWant, NdPay2, NdI.
-/
import Derived.Test.YtppmcficiphgdaaGreatDoorQa1
import Derived.Test.YtppmcficiphgdaaGreatDoorQa13
import Derived.Test.YtppmcficiphgdaaGreatDoorQaZ3
import Derived.Test.YtppmcficiphgdaaGreatDoorQa11
import Derived.Test.YtppmcficiphgdaaGreatDoorQa4
import Derived.Test.YtppmcficiphgdaaGreatDoorQa9
import Derived.Test.YtppmcficiphgdaaGreatDoorQa10
import Derived.OneCell
import Derived.Laws.AppendOwnNone
import Derived.Maps.AppendAt
import Derived.Laws.OwnMore
import Derived.Lib.AppendZeros
namespace Go.Proofs.YtppmcficiphgdaaGreatDoor
open Go.RowKit
open Mth
theorem run_append_where {P:Program} (w:World) (base:Nat) (t ty e:TypeId) (i:TypeInfo) (z:Value) (size bytes:Nat) (ht:P.underlying t=some (.slice e)) (hi:P.info? e=some i) (hz:i.zero=some z)
 (hsize:i.size=size) (hby:i.bytes=bytes) (hzs:z.cells.size=size) (hsz:0 < size)
 (v:Value) (n:Nat) (xs:List Value) (hown:w.ownsRow base e size v n xs)
 (a:Addr) (m c:Nat) (news:List Value) (hl:news.length=m*size) (hnews:∀j u,news[j]?=some u→w.cell? (a.add j)=some u) (h1:∀u∈news,u.oneCell'=true)
 (h63:n+m≤maxLen) (hbytes:(n+m)*bytes≤140737488355328) (hbase:base≤w.heap.size):
 ∃v' w',(Builtin.append_ #[t,t] ty #[v,.slice (some a) m c]).run P w= .ok v' w'∧w'.ownsRow base e size v' (n+m) (xs++news)∧w.grownBy w' v.ownBlock∧
  ∀x,v'.ownBlock=some x→v.ownBlock=some x∨w.heap.size≤x:=by
 obtain⟨v',w',hr,ho,hg,_⟩:=run_append_own w base t ty e i z size bytes ht hi hz hsize hby hzs hsz v n xs hown a m c news hl hnews h1 h63 hbytes hbase;refine⟨v',w',hr,ho,hg,fun x hx=>?_⟩;have hsmall:n+m≤9223372036854775807:=by simp only[maxLen] at h63;omega
 rcases hown.2 with⟨rfl,rfl⟩|⟨g,cap,cur,rfl,hbg,hgg,hnc,hcm,hcs,htake⟩
 ·have hxs:xs=[]:=List.eq_nil_of_length_eq_zero (by simpa using hown.1);subst hxs;obtain⟨v2,w2,hr2,ho2,_,_⟩:=run_append_own w w.heap.size t ty e i z size bytes ht hi hz hsize hby hzs hsz (.slice none 0 0) 0 [] (World.ownsRow_nil w _ e size) a m c news hl hnews h1 h63 hbytes (Nat.le_refl _);have he:=hr.symm.trans hr2;simp only[Result.ok.injEq] at he;obtain⟨rfl,rfl⟩:=he;exact .inr (ho2.lt x hx).1
 ·subst hsize;subst hby;by_cases hroom:n+m≤cap
  ·have hfit:n*i.size+news.length≤cur.size:=by rw [hl,hcs,←Nat.add_mul];exact Nat.mul_le_mul_right _ hroom
   have hr2:=run_append_room (P:=P) w t ty e i ht hi g n cap cur hgg a m c news hl hnews h1 hroom hfit;have he:=hr.symm.trans hr2;simp only[Result.ok.injEq] at he;obtain⟨rfl,_⟩:=he;exact .inl hx
  ·have holds:∀j u,xs[j]?=some u→w.cell? ((⟨g,0,none⟩:Addr).add j)=some u:=hown.cells (g:=g) rfl;have hr2:=run_append_grow (P:=P) w t ty e i z ht hi hz ⟨g,0,none⟩ n cap xs hown.1 holds a m c news hl hnews (by omega) (by omega) (growslice_fits (by omega) hbytes);have he:=hr.symm.trans hr2;simp only[Result.ok.injEq] at he;obtain⟨rfl,_⟩:=he;have:w.heap.size=x:=by simpa [Value.ownBlock] using hx
   exact .inr (by omega)
theorem wp_append_where {P:Program} (w:World) {o:Oper} {a:Act} {K:Act→World→Prop} {Q:Exit→Act→World→Prop} (s x:Operand) (t:TypeId)
 (ho:o.op= .call {callee:= .builtin .append,args:=#[s,x],argTypes:=#[t,t]})
 (base:Nat) (e:TypeId) (i:TypeInfo) (z:Value) (size bytes:Nat) (ht:P.underlying t=some (.slice e)) (hi:P.info? e=some i) (hz:i.zero=some z)
 (hsize:i.size=size) (hby:i.bytes=bytes) (hzs:z.cells.size=size) (hsz:0 < size)
 (v:Value) (n:Nat) (xs:List Value) (hs:a.eval s=v) (hown:w.ownsRow base e size v n xs)
 (ad:Addr) (m c:Nat) (news:List Value) (hx:a.eval x= .slice (some ad) m c) (hl:news.length=m*size) (hnews:∀j u,news[j]?=some u→w.cell? (ad.add j)=some u) (h1:∀u∈news,u.oneCell'=true)
 (h63:n+m≤maxLen) (hbytes:(n+m)*bytes≤140737488355328) (hbase:base≤w.heap.size)
 (h:∀v' w',w'.ownsRow base e size v' (n+m) (xs++news)→w.grownBy w' v.ownBlock→(∀x,v'.ownBlock=some x→v.ownBlock=some x∨w.heap.size≤x)→K (a.put o.dst v') w'):o.wp P a w K Q:=by
 obtain⟨v',w',hr,h2,h3,h4⟩:=run_append_where w base t o.type e i z size bytes ht hi hz hsize hby hzs hsz v n xs hown ad m c news hl hnews h1 h63 hbytes hbase;exact Lib.wp_append_run w s x t t ho _ _ hs hx v' w' hr (h v' w' h2 h3 h4)
end Go.Proofs.YtppmcficiphgdaaGreatDoor

namespace Go.Proofs.YtppmcficiphgdaaGreatDoor
set_option maxHeartbeats 4000000
set_option maxRecDepth 100000
open Go.RowKit
open Mth
theorem WK.app {w0 w w6:World} {wb:Nat} {n:Nd} {A:Ads} {G:Blks} {c:Nat→Nat} {v v':Value} {L:List Mg} (h:WK w0 w wb n A G c v L) (m:Mg)
 (hown:w6.ownsRow w0.heap.size 32 7 v' (L.length+1) (GR.flat encM L++encM m)) (hg:w.grownBy w6 v.ownBlock) (hv:∀x,v'.ownBlock=some x→v.ownBlock=some x∨w.heap.size≤x):
 w6.heap[wb]?=some (.cells (wkc n A v) 74 (0,0))∧WK w0 (w6.setCell ⟨wb,9,none⟩ v') wb n A G (newC w.heap.size 7 c) v' (L++[m]):=by
 have h1:=h.recol (c':=newC w.heap.size 7 c) (fun x hx=>newC_old hx);have hk1:KC (newC w.heap.size 7 c) 7 w w6:=KC.grown hg h1.cm;have hblk:=hk1.obj h1.blk (by rw [h1.cw];omega);have hno:=h1.no.kc hk1 (by omega);have hkeep:=hk1.below h1.keep h1.no.lo (by omega) h1.keep.size;have hk2:KC (newC w.heap.size 7 c) 8 w6 (w6.setCell ⟨wb,9,none⟩ v'):=KC.set h1.cw
 have hcm:∀x,v'.ownBlock=some x→newC w.heap.size 7 c x=7:=fun x hx=>by
  rcases hv x hx with hx'|hx'
  ·exact h1.cm x hx'
  ·exact newC_new hx'
 refine⟨hblk,hk2.below hkeep h1.no.lo (by omega) hkeep.size,blk_setO hblk 9 v',hno.kc hk2 (by omega),?_,hcm,h1.cw⟩;rw [List.length_append,flat_snoc];exact hk2.own hown hcm (by omega)
theorem wkSay (w0 w:World) (wb:Nat) (n:Nd) (A:Ads) (G:Blks) (c:Nat→Nat) (v:Value) (L:List Mg) (m:Mg) (hk:m.k.size≤1048600) (hL:L.length≤2097200) (h:WK w0 w wb n A G c v L):
 Calls Tryz.prog 164 #[.pointer (some ⟨wb,0,none⟩),mgv m] w fun e w'=>e= .returned (.tuple #[])∧∃c' v',WK w0 w' wb n A G c' v' (L++[m]):=by
 obtain⟨i0,hi,hz0,hz1,hz2⟩:=info_parts infoMsg;have HS:=hide h;clear h;obtain⟨va,vc,hv,_⟩:=GR.own_at (enc:=encM) (sz:=7) (l:=L) encM_length HS.m;subst hv;obtain⟨mK,mF,mT,mI,mL,mk,mN⟩:=m;dsimp only at hk;have HX0:=hide (heap_alloc_new w (.cells #[.int .i64 mK,.int .i64 mF,.int .i64 mT,.int .i64 mI,.int .i64 mL,.string mk,.int .i64 mN] 32));go_enter Tryz.func164,Tryz.ntmps164
 go_wp2_with fail;refine(clone mk _ (by omega)).mono ?_;rintro e w1 ⟨rfl,hb1⟩;have HX1:=hide (obj_step HX0 hb1);have HB1:=hide ((below_one w _).trans (hb1.mono (by simp)));clear hb1 HX0;have hf5:=obj_free HX1 5;obtain⟨x0,x1,x2,x3,x4,x5,x6⟩:=sevenC HX1;go_upto_region 2 with fail;refine wp_at (fun W hW=>?_);have HXW:Hid (W.heap[w.heap.size]?=some (.cells #[.int .i64 mK,.int .i64 mF,.int .i64 mT,.int .i64 mI,.int .i64 mL,.string mk,.int .i64 mN] 32 (0,0))):=by rw [hW];exact blk_setO HX1 5 (.string mk)
 have HBW:Hid (Below w.heap.size w W):=by rw [hW];exact HB1.setCell (p:=⟨w.heap.size,5,none⟩) (Nat.le_refl _) _
 clear hW HB1 HX1 hf5 x0 x1 x2 x3 x4 x5 x6;have HSW:=hide (HS.step HBW);have hwl:=obj_lt HS.blk;have hne:wb≠w.heap.size:=by omega
 have hlW:=obj_lt HXW;obtain⟨x0,x1,x2,x3,x4,x5,x6⟩:=sevenC HXW;obtain⟨c0,c1,c2,c3,c4,c5,c6,c7,c8,c9⟩:=tenC HSW.blk;have y9:=cell_regrown c9;have z0:=cell_regrown x0;have z1:=cell_regrown x1;have z2:=cell_regrown x2;have z3:=cell_regrown x3;have z4:=cell_regrown x4;have z5:=cell_regrown x5;have z6:=cell_regrown x6;clear x0 x1 x2 x3 x4 x5 x6 c0 c1 c2 c3 c4 c5 c6 c7 c8 c9;refine wp_region_anyG (by kernel_rfl) ?_;show wpAnyG _ _ _ _ 11 (Array.replicate 11 false) _ _
 open Sa180 in exact Ya43
end Go.Proofs.YtppmcficiphgdaaGreatDoor
namespace Go.Proofs.YtppmcficiphgdaaGreatDoor
set_option maxHeartbeats 4000000
set_option maxRecDepth 100000
open Go.RowKit
open Mth
def wantN (n:Nd) (o:Op5):List Mg×Int:=if n.par= -1 then([],1) else([wantM n o],0)
theorem wkWant (w0 w:World) (wb:Nat) (n:Nd) (A:Ads) (G:Blks) (c:Nat→Nat) (v:Value) (L:List Mg) (o:Op5) (hk:o.k.size≤1048576) (hL:L.length≤2097100) (h:WK w0 w wb n A G c v L):
 Calls Tryz.prog 109 #[.pointer (some ⟨wb,0,none⟩),opw o] w fun e w'=>e= .returned (.int .i64 (wantN n o).2)∧∃c' v',WK w0 w' wb n A G c' v' (L++(wantN n o).1):=by
 have HSY:=hide (fun W c v (hW:WK w0 W wb n A G c v L)=>wkSay w0 W wb n A G c v L (wantM n o) (by show o.k.size≤1048600;omega) (by omega) hW);unfold wantM at HSY;have hwl:=obj_lt h.blk;have hne:wb≠w.heap.size:=by omega
 by_cases hpar:n.par= -1
 ·have hR:wantN n o=([],1):=if_pos hpar;rw [hR];obtain⟨K,no,k,nn,⟨mK,mF,mT,mI,mL,mk,mN⟩⟩:=o;open Sa142 in exact Ya34
 ·have hR:wantN n o=([wantM n o],0):=if_neg hpar;rw [hR];unfold wantM;obtain⟨K,no,k,nn,⟨mK,mF,mT,mI,mL,mk,mN⟩⟩:=o;dsimp only at HSY ⊢;open Sa42 in exact Ya12
end Go.Proofs.YtppmcficiphgdaaGreatDoor
namespace Go.Proofs.YtppmcficiphgdaaGreatDoor
set_option maxHeartbeats 8000000
set_option maxRecDepth 100000
open Go.RowKit
open Mth
theorem infoSnt:(Tryz.prog.info? 79).map (fun i=>(i.zero,i.size,i.bytes))=some (some (.agg #[.int .i64 0,.int .i64 0,.string ByteArray.empty,.int .i64 0]),4,40):=by kernel_rfl
theorem fieldFree (k:ByteArray) (m f s:Int) (w:World):(Instr.field 141 (.agg #[.string k,.int .i64 m,.int .i64 f,.int .i64 s]) 2).run Tryz.prog w= .ok (.int .i64 f) w:=by kernel_rfl
theorem encSnt_one (s:Snt):∀u∈encSnt s,u.oneCell'=true:=by
 intro u hu;simp only[encSnt,List.mem_cons,List.not_mem_nil,or_false] at hu;rcases hu with rfl|rfl|rfl|rfl<;>rfl
theorem four_setW {w:World} {g:Nat} {a0 a1 a2 a3 b0 b1 b2 b3:Value} {t:TypeId} (h:w.heap[g]?=some (.cells #[a0,a1,a2,a3] t (0,0))):((((w.setCell ⟨g,0,none⟩ b0).setCell ⟨g,1,none⟩ b1).setCell ⟨g,2,none⟩ b2).setCell ⟨g,3,none⟩ b3).heap[g]?=some (.cells #[b0,b1,b2,b3] t (0,0)):=
 GR.setW_blk [b0,b1,b2,b3] (o:=0) (xs:=[a0,a1,a2,a3]) h
theorem four_setW_below {a w:World} {B g:Nat} {b0 b1 b2 b3:Value} (h:Below B a w) (hg:B≤g):Below B a ((((w.setCell ⟨g,0,none⟩ b0).setCell ⟨g,1,none⟩ b1).setCell ⟨g,2,none⟩ b2).setCell ⟨g,3,none⟩ b3):=
 GR.setW_below hg [b0,b1,b2,b3] (o:=0) h
theorem WK.outApp {w0 w w6:World} {wb:Nat} {n:Nd} {A:Ads} {G:Blks} {c:Nat→Nat} {v:Value} {L:List Mg} {a6:Option Addr} {c6:Nat} (h:WK w0 w wb n A G c v L) (s:Snt)
 (hown:w6.ownsRow w0.heap.size 79 4 (.slice a6 (n.out.length+1) c6) (n.out.length+1) (GR.flat encSnt n.out++encSnt s)) (hg:w.grownBy w6 (Value.slice A.o n.out.length A.co).ownBlock) (hv:∀x,(Value.slice a6 (n.out.length+1) c6).ownBlock=some x→(Value.slice A.o n.out.length A.co).ownBlock=some x∨w.heap.size≤x):
 w6.heap[wb]?=some (.cells (wkc n A v) 74 (0,0))∧KC (newC w.heap.size 3 c) 3 w w6∧WK w0 (w6.setCell ⟨wb,5,none⟩ (.slice a6 (n.out.length+1) c6)) wb (setOut n (n.out++[s])) ⟨A.k,A.p,a6,A.s,A.r,A.ck,A.cp,c6,A.cs,A.cr⟩ G (newC w.heap.size 3 c) v L:=by
 have h1:=h.recol (c':=newC w.heap.size 3 c) (fun x hx=>newC_old hx);have hk1:KC (newC w.heap.size 3 c) 3 w w6:=KC.grown hg h1.no.co;have hblk:=hk1.obj h1.blk (by rw [h1.cw];omega);have hkeep:=hk1.below h1.keep h1.no.lo (by omega) h1.keep.size;have hk2:KC (newC w.heap.size 3 c) 8 w6 (w6.setCell ⟨wb,5,none⟩ (.slice a6 (n.out.length+1) c6)):=KC.set h1.cw
 have hco:∀x,(Value.slice a6 (n.out.length+1) c6).ownBlock=some x→newC w.heap.size 3 c x=3:=fun x hx=>by
  rcases hv x hx with hx'|hx'
  ·exact h1.no.co x hx'
  ·exact newC_new hx'
 have hlen:(n.out++[s]).length=n.out.length+1:=by simp
 have hno:=h1.no;refine⟨hblk,hk1,hk2.below hkeep hno.lo (by omega) hkeep.size,?_,⟨?_,?_,?_,?_,?_,hno.lo,hno.ck,hno.cp,?_,hno.c4,hno.ci,hno.cr,hno.ni⟩,?_,h1.cm,h1.cw⟩
 ·have:=blk_setO hblk 5 (.slice a6 (n.out.length+1) c6);rw [this];show some (Obj.cells (wkc n A v |>.setIfInBounds 5 _) _ _)=some (Obj.cells #[_,_,_,_,_,.slice a6 (n.out++[s]).length c6,_,_,_,_] _ _)
  rw [hlen];rfl
 ·exact hk2.w (hk1.w hno.k hno.ck (by omega)) hno.ck (by omega)
 ·exact hk2.w (hk1.w hno.p hno.cp (by omega)) hno.cp (by omega)
 ·show(w6.setCell _ _).ownsRow _ _ _ (.slice a6 (n.out++[s]).length c6) (n.out++[s]).length (GR.flat encSnt (n.out++[s]))
  rw [hlen,flat_snoc];exact hk2.own hown hco (by omega)
 ·exact Za100
 ·exact hk2.own (hk1.own hno.r hno.cr (by omega)) hno.cr (by omega)
 ·show∀x,(Value.slice a6 (n.out++[s]).length c6).ownBlock=some x→_
  rw [hlen];exact hco
 ·exact hk2.own (hk1.own h1.m h1.cm (by omega)) h1.cm (by omega)
theorem WK.next {w0 w:World} {wb:Nat} {n:Nd} {A:Ads} {G:Blks} {c:Nat→Nat} {v:Value} {L:List Mg} (h:WK w0 w wb n A G c v L) (y:Int):WK w0 (w.setCell ⟨wb,3,none⟩ (.int .i64 y)) wb (setNext n y) A G c v L:=by
 have hk2:KC c 8 w (w.setCell ⟨wb,3,none⟩ (.int .i64 y)):=KC.set h.cw;have hno:=h.no.kc hk2 (by omega);exact⟨hk2.below h.keep h.no.lo (by omega) h.keep.size,blk_setO h.blk 3 (.int .i64 y),⟨hno.k,hno.p,hno.o,hno.s,hno.r,hno.lo,hno.ck,hno.cp,hno.co,hno.c4,hno.ci,hno.cr,hno.ni⟩,hk2.own h.m h.cm (by omega),h.cm,h.cw⟩
theorem keyOk_le {s:ByteArray} (hs:keyOk s.data.toList=true):s.size≤10:=by
 unfold keyOk at hs;simp only[Bool.and_eq_true,decide_eq_true_iff] at hs;have:=size_toList s;omega
theorem nd_small {n:Nd} (h:ndOk n=true):NdSz n 1000:=by
 obtain⟨h1,h2,h3,h4,h5,h6⟩:=ndOk_parts h;obtain⟨p1,p2,p3⟩:=(psOk_iff n.pu).1 h2;obtain⟨o1,o2,o3⟩:=outs_asc h5;obtain⟨r1,r2,r3,_,_⟩:=reqs_asc h6
 have hk:n.kids.length≤30:=by
  unfold placeB at h1;simp only[Bool.and_eq_true,decide_eq_true_eq] at h1;exact h1.1.2
 unfold toldB at h3;simp only[Bool.and_eq_true,decide_eq_true_eq] at h3
 have hs:n.seen.length≤31:=by
  have:=h3.1;split at this<;>omega
 refine⟨by omega,by omega,by omega,by omega,by omega,fun x hx=>?_,fun x hx=>?_,fun x hx=>?_,fun x hx=>?_⟩
 ·have:=p1 x hx;unfold puOk at this;simp only[Bool.and_eq_true] at this;exact Nat.le_trans (keyOk_le this.1.1.1.1) (by omega)
 ·have:=o3 x hx;unfold outB at this;simp only[Bool.and_eq_true] at this;exact Nat.le_trans (keyOk_le this.1.2) (by omega)
 ·have:=chk_mem h3.2 x hx;unfold snB at this;simp only[Bool.and_eq_true,decide_eq_true_eq] at this;have:=this.2.1.2;omega
 ·have:=(reqB_parts (r3 x hx)).2.2.1;exact Nat.le_trans (keyOk_le this) (by omega)
theorem wkPay_full (w0 w:World) (wb:Nat) (n:Nd) (A:Ads) (G:Blks) (c:Nat→Nat) (v:Value) (L:List Mg) (dst:Int) (key:ByteArray) (a:Int) (hc:n.out.length=40) (h:WK w0 w wb n A G c v L):Calls Tryz.prog 165 #[.pointer (some ⟨wb,0,none⟩),.int .i64 dst,.string key,.int .i64 a] w fun e w'=>e= .returned (.bool false)∧w=w':=by
 have hq:((n.out.length:Int) == 40)=true:=by rw [hc];rfl
 exact Za93
theorem wkPay_last (w0 w:World) (wb:Nat) (n:Nd) (A:Ads) (G:Blks) (c:Nat→Nat) (v:Value) (L:List Mg) (dst:Int) (key:ByteArray) (a:Int) (hl:n.out.length < 40) (hc:n.next=1000000000) (h:WK w0 w wb n A G c v L):Calls Tryz.prog 165 #[.pointer (some ⟨wb,0,none⟩),.int .i64 dst,.string key,.int .i64 a] w fun e w'=>e= .returned (.bool false)∧w=w':=by
 have hq:((n.out.length:Int) == 40)=false:=by simp;omega
 have hq2:(n.next == 1000000000)=true:=by rw [hc];rfl
 exact Za93
theorem wkPay_some (w0 w:World) (wb:Nat) (n:Nd) (A:Ads) (G:Blks) (c:Nat→Nat) (v:Value) (L:List Mg) (dst:Int) (key:ByteArray) (a:Int) (E:Nat→Addr) (hok:ndOk n=true) (hkey:keyOk key.data.toList=true) (ha1:1≤a) (ha2:a≤1000000000) (hL:L.length≤2097100) (hc1:n.out.length < 40) (hc2:n.next < 1000000000) (h:WK w0 w wb n A G c v L) (he:Errs w0 E):
 Calls Tryz.prog 165 #[.pointer (some ⟨wb,0,none⟩),.int .i64 dst,.string key,.int .i64 a] w fun e w'=>e= .returned (.bool (giveN n dst key a).2.2)∧∃A' G' c' v',WK w0 w' wb (giveN n dst key a).1 A' G' c' v' (L++(giveN n dst key a).2.1):=by
 have hz:=nd_small hok;obtain⟨_,hps,_,hnx,_,_⟩:=ndOk_parts hok;have hnx1:1≤n.next∧n.next≤1000000000:=by simpa [smB] using hnx
 have hks:=keyOk_le hkey
 have hf:0≤(purseOf n.pu key).f∧(purseOf n.pu key).f≤1000000000:=by
  have hpo:=purseOf_ok hps hkey;unfold puOk amB at hpo;simp only[Bool.and_eq_true,decide_eq_true_eq] at hpo;exact hpo.1.1.2
 have HPO:=hide (fun w1 (hb:Below w.heap.size w w1)=>implPurseOf A.p A.cp n.pu key w1 (by have:=hz.p;omega) (fun p hp=>Nat.le_trans (hz.pk p hp) (by omega)) (by omega) (GR.At.below h.no.p.at hb));have HPA:=hide (fun(y:Int) w1 (hb:Below w.heap.size w w1)=>implPart A.p A.cp n.pu key y E w1 (by have:=hz.p;omega) (fun p hp=>Nat.le_trans (hz.pk p hp) (by omega)) (by omega) (GR.At.below h.no.p.at hb) (he.below (h.keep.trans (hb.mono h.keep.size))));unfold GivesP at HPA
 have HAM:Hid (amtP n key a=min a (purseOf n.pu key).f):=by
  show amtP n key a=min a (purseOf n.pu key).f
  unfold amtP;split<;>omega
 have HPK:=hide (fun(y:Int) (h1:1≤y) (h2:y≤(purseOf n.pu key).f) (h3:y≤1000000000)=>part_ok hps hkey h1 h2 h3);have HNO:=hide (fun(y:Int) (h1:¬1≤y)=>addP_n (l:=n.pu) (key:=key) (dm:=0) (df:= -1) (ds:=0) (n:=y) (fun hx=>h1 hx.1))
 have HGY:Hid (1≤amtP n key a→giveN n dst key a=(paidN n dst key (amtP n key a),[payM (paidN n dst key (amtP n key a)) ⟨n.next,dst,key,amtP n key a⟩],true)):=fun h1=>by
  unfold giveN
  exact if_pos (decide_eq_true ⟨h1,hc1,hc2⟩)
 have HGN:Hid (¬1≤amtP n key a→giveN n dst key a=(n,[],false)):=fun h1=>by
  unfold giveN payB
  rw [if_neg (by rw [decide_eq_false (fun hx=>h1 hx.1)];simp)]
 have hq1:((n.out.length:Int) == 40)=false:=by simp;omega
 have hq2:(n.next == 1000000000)=false:=by simp;omega
 have HOL:=hide hc1;have HZ:=hide hz;generalize hfr:purseOf n.pu key=fr at *;obtain⟨fk,fm,ff,fs⟩:=fr;dsimp only at hf HAM HPK;have HW:=hide h;clear h he hok hkey hps hnx hc1 hc2 hfr hz;generalize giveN n dst key a=gv at *;obtain⟨c0,c1,c2,c3,c4,c5,c6,c7,c8,c9⟩:=tenC HW.blk;go_enter Tryz.func165,Tryz.ntmps165
 go_wp2_with fail;refine(HPO w (Below.refl _ _)).mono ?_;rintro e w1 ⟨rfl,hb1⟩;have HB1:=hide hb1;have HW1:=hide (HW.step hb1);clear hb1 HPO c0 c1 c2 c3 c4 c5 c6 c7 c8 c9;obtain⟨c0,c1,c2,c3,c4,c5,c6,c7,c8,c9⟩:=tenC HW1.blk;have hfld:=fieldFree fk fm ff fs;go_wp2_with fail;clear c0 c1 c2 c3 c4 c5 c6 c7 c8 c9 hfld;have hmn1:min a ff≤a:=by omega
 have hmn2:min a ff≤ff:=by omega
 generalize min a ff=amt at *;have hAM:=unhide HAM;rw [hAM] at HGY HGN;clear HAM hAM;refine(HPA amt w1 HB1).mono ?_;rintro e y ⟨pa,pcp,pg,hpg,rfl,hp,hby⟩;have HST:=hide (settleW (cp:=pcp) HW1 hby hpg hp);have HPD:Hid (paidN n dst key amt=⟨n.id,n.par,n.kids,n.next+1,(addP n.pu key 0 (-1) 0 amt).1,n.out++[⟨n.next,dst,key,amt⟩],n.seen,n.old,n.reqs⟩):=rfl;have HPK1:=hide (HPK amt);have HNO1:=hide (HNO amt);clear hp hby hpg HPA HPK HNO HW1;generalize addP n.pu key 0 (-1) 0 amt=r at *;go_wp2_with fail;refine HST.mono ?_;rintro e z ⟨rfl,A1,G1,c1,hZ⟩;by_cases h1:1≤amt
 case' neg=>
  have hr:=unhide HNO1 (by omega)
  subst hr
  have HZ1:=hide hZ
  have hG:=unhide HGN (by omega)
  have HG:=hide hG
  clear hZ hG HGY HGN HST HPK1 HNO1 HPD
  go_wp2_with fail
  go_ret
  have hG:=unhide HG
  subst hG
  refine⟨rfl,A1,G1,c1,v,?_⟩
  rw [List.append_nil]
  exact HZ1
 have hr2:=unhide HPK1 h1 hmn2 (by omega);obtain⟨rl,rb⟩:=r;dsimp only at hr2;subst hr2;have HG:=hide (HGY h1);have HN1:Hid (WK w0 z wb (setPu n rl) A1 G1 c1 v L):=hZ;clear hZ HGY HGN HST HPK1 HNO1 HB1 HW;have hcl:n.out.length≤40:=by have:=unhide HOL;omega
 obtain⟨c0,c1,c2,c3,c4,c5,c6,c7,c8,c9⟩:=tenC HN1.blk;dsimp only[setPu] at c0 c1 c2 c3 c4 c5 c6 c7 c8 c9;have hwbz:=obj_lt HN1.blk;go_upto_region 6 with fail;have y3:=cell_regrown c3;clear c0 c1 c2 c3 c4 c5 c6 c7 c8 c9;refine wp_region_mixE 11 (by kernel_rfl) ?_;show wpMixE _ _ _ _ _ 12 (Array.replicate 12 false) _ _
 refine tk [0,1,2,3,4,5,6,8] ?_;iterate 8 (refine tkE (fun K hK=>?_);go_simp;refine hK _ ?_;clear hK K)
 refine tkN ?_;clear y3;refine wpMixE_two 7 10 rfl rfl (by kernel_rfl) (by rfl) (by rfl) (fun x hx=>?c1) (fun x hx=>?c2)
 case' c1=>
  go_simp
  refine(clone key x (by omega)).mono ?_
  rintro e y ⟨rfl,hby⟩
  refine⟨hby,?_⟩
  have HY:=hide (Ge.trans hx hby)
  clear hx hby
  refine tk [9] ?_
  (refine tkE (fun K hK=>?_);go_simp;refine hK _ ?_;clear hK K)
  refine tkN ?_
  refine wpMixE_one 10 rfl (by kernel_rfl) (by rfl) (fun x2 hx2=>?_)
  go_simp
  refine⟨below_one x2 _,?_⟩
  have hgl:z.heap.size≤x2.heap.size:=(Ge.trans HY hx2).size
  have HGA:=hide (heap_alloc_new x2 (.cells #[.int .i64 0,.int .i64 0,.string ⟨#[]⟩,.int .i64 0] 79))
  have HBA:=hide (Ge.trans (Ge.trans HY hx2) (below_one x2 (.cells #[.int .i64 0,.int .i64 0,.string ⟨#[]⟩,.int .i64 0] 79)))
  clear hx2 HY
  generalize x2.alloc (.cells #[.int .i64 0,.int .i64 0,.string ⟨#[]⟩,.int .i64 0] 79)=y2 at *
  generalize x2.heap.size=g at *
  refine wpMixE_leave (by kernel_rfl) (fun z2 hz2=>?_)
  have HGB:=hide (obj_step HGA hz2)
  have HBB:=hide (Ge.trans HBA hz2)
  clear hz2 HGA HBA
  have hz2l:=obj_lt HGB
  obtain⟨g0,g1,g2,g3⟩:=fourC HGB
  have f0:=obj_free HGB 0
  have f1:=obj_free HGB 1
  have f2:=obj_free HGB 2
  have f3:=obj_free HGB 3
  refine wpAny_one 11 rfl (by kernel_rfl) (by rfl) ?_
  go_simp
  refine wpAny_done (by kernel_rfl) ?_
  go_simp
  go_upto_region 7 with fail
  refine wp_at (fun W hW=>?_)
  have HGW:Hid (W.heap[g]?=some (.cells #[.int .i64 n.next,.int .i64 dst,.string key,.int .i64 amt] 79 (0,0))):=by rw [hW];exact four_setW HGB
  have HBW:Hid (Below z.heap.size z W):=by rw [hW];exact four_setW_below HBB hgl
  clear hW HGB HBB hz2l g0 g1 g2 g3 f0 f1 f2 f3
 case' c2=>
  go_simp
  refine⟨below_one x _,?_⟩
  have hgl:z.heap.size≤x.heap.size:=hx.size
  have HGA:=hide (heap_alloc_new x (.cells #[.int .i64 0,.int .i64 0,.string ⟨#[]⟩,.int .i64 0] 79))
  have HBA:=hide (Ge.trans hx (below_one x (.cells #[.int .i64 0,.int .i64 0,.string ⟨#[]⟩,.int .i64 0] 79)))
  clear hx
  generalize x.alloc (.cells #[.int .i64 0,.int .i64 0,.string ⟨#[]⟩,.int .i64 0] 79)=y2 at *
  generalize x.heap.size=g at *
  refine wpMixE_one 7 rfl (by kernel_rfl) (by rfl) (fun x2 hx2=>?_)
  go_simp
  refine(clone key x2 (by omega)).mono ?_
  rintro e y3 ⟨rfl,hby⟩
  refine⟨hby,?_⟩
  have HGC:=hide (obj_step HGA (Ge.trans hx2 hby))
  have HBC:=hide (Ge.trans HBA (Ge.trans hx2 hby))
  clear hx2 hby HGA HBA
  refine tk [9] ?_
  (refine tkE (fun K hK=>?_);go_simp;refine hK _ ?_;clear hK K)
  refine tkN ?_
  refine wpMixE_leave (by kernel_rfl) (fun z2 hz2=>?_)
  have HGB:=hide (obj_step HGC hz2)
  have HBB:=hide (Ge.trans HBC hz2)
  clear hz2 HGC HBC
  have hz2l:=obj_lt HGB
  obtain⟨g0,g1,g2,g3⟩:=fourC HGB
  have f0:=obj_free HGB 0
  have f1:=obj_free HGB 1
  have f2:=obj_free HGB 2
  have f3:=obj_free HGB 3
  refine wpAny_one 11 rfl (by kernel_rfl) (by rfl) ?_
  go_simp
  refine wpAny_done (by kernel_rfl) ?_
  go_simp
  go_upto_region 7 with fail
  refine wp_at (fun W hW=>?_)
  have HGW:Hid (W.heap[g]?=some (.cells #[.int .i64 n.next,.int .i64 dst,.string key,.int .i64 amt] 79 (0,0))):=by rw [hW];exact four_setW HGB
  have HBW:Hid (Below z.heap.size z W):=by rw [hW];exact four_setW_below HBB hgl
  clear hW HGB HBB hz2l g0 g1 g2 g3 f0 f1 f2 f3
 all_goals
  have hgw:=obj_lt HGW
  have HWW:=hide (HN1.step HBW)
  have HCG:Hid ((Value.slice A1.o n.out.length A1.co).ownBlock≠some g):=fun e=>by have h9:=(HN1.no.o.lt g e).2;omega
  clear HN1 HBW
  obtain⟨c0,c1,c2,c3,c4,c5,c6,c7,c8,c9⟩:=tenC HWW.blk
  dsimp only[setPu] at c0 c1 c2 c3 c4 c5 c6 c7 c8 c9
  obtain⟨s0,s1,s2,s3⟩:=fourC HGW
  obtain⟨i0,hi,hz0,hz1,hz2⟩:=info_parts infoSnt
  have y5:=cell_regrown c5
  have x0:=cell_regrown s0
  have x1:=cell_regrown s1
  have x2:=cell_regrown s2
  have x3:=cell_regrown s3
  clear c0 c1 c2 c3 c4 c5 c6 c7 c8 c9 s0 s1 s2 s3
  refine wp_region_anyG (by kernel_rfl) ?_
  show wpAnyG _ _ _ _ 13 (Array.replicate 13 false) _ _
  refine wpAnyG_pure 0 rfl (by kernel_rfl) (by kernel_rfl) (by kernel_rfl) (fun _ _ _ _ h=>h) (fun K hK=>?_)
  go_simp
  first
   |(refine hK _ ?_;clear hK K)
   |(apply Exists.intro
     refine⟨fun _=>rfl,hK _ ?_⟩
     clear hK K)
  refine wpAnyG_mixE 8 ?_
  refine tk [1,2,3,4,5,6] ?_
  iterate 6 (refine tkE (fun K hK=>?_);go_simp;refine hK _ ?_;clear hK K)
  refine tkN ?_
  clear y5 x0 x1 x2 x3
  refine wpMixE_one 7 rfl (by kernel_rfl) (by rfl) (fun q hq=>?_)
  go_simp
  refine⟨below_one q _,?_⟩
  have HSX:=hide ((HWW.step hq).step (below_one q (.cells #[.int .i64 n.next,.int .i64 dst,.string key,.int .i64 amt] 79)))
  have HGX:=hide (obj_step (obj_step HGW hq) (below_one q (.cells #[.int .i64 n.next,.int .i64 dst,.string key,.int .i64 amt] 79)))
  have HNX:=hide (heap_alloc_new q (.cells #[.int .i64 n.next,.int .i64 dst,.string key,.int .i64 amt] 79))
  have hgq:g < q.heap.size:=Nat.lt_of_lt_of_le hgw hq.size
  clear hq HWW HGW hgw
  generalize q.alloc (.cells #[.int .i64 n.next,.int .i64 dst,.string key,.int .i64 amt] 79)=y4 at *
  refine wpMixE_leave (by kernel_rfl) (fun z4 hz4=>?_)
  have HSZ:=hide (HSX.step hz4)
  have HGZ:=hide (obj_step HGX hz4)
  have HNZ:=hide (obj_step HNX hz4)
  clear hz4 HSX HNX HGX
  refine wpAny_one 8 rfl (by kernel_rfl) (by rfl) ?_
  refine wp_append_where z4 (.tmp 63) (.tmp 65) 26 rfl w0.heap.size 79 i0 (.agg #[.int .i64 0,.int .i64 0,.string ByteArray.empty,.int .i64 0]) 4 40 Tryz.underlying26 hi hz0 hz1 hz2 rfl (by decide) (.slice A1.o n.out.length A1.co) n.out.length (GR.flat encSnt n.out) (by simp[Act.eval]) HSZ.no.o ⟨q.heap.size,0,none⟩ 1 1 (encSnt ⟨n.next,dst,key,amt⟩) (by simp[Act.eval]) rfl (World.news_of_block HNZ) (encSnt_one _) (by unfold maxLen;omega) (by omega) HSZ.keep.size ?_
  intro v6 w6 hown6 hgr6 hwh6
  obtain⟨a6,c6,hv6,_⟩:=GR.own_at (enc:=encSnt) (sz:=4) (l:=n.out++[⟨n.next,dst,key,amt⟩]) encSnt_length (by rw [List.length_append,flat_snoc];exact hown6)
  rw [List.length_append] at hv6
  have hv7:v6= .slice a6 (n.out.length+1) c6:=hv6
  subst hv7
  clear hv6
  obtain⟨hb6,hk6,hS6⟩:=HSZ.outApp ⟨n.next,dst,key,amt⟩ hown6 hgr6 hwh6
  have HS6:=hide hS6
  obtain⟨k0,k1,k2,k3,k4,k5,k6,k7,k8,k9⟩:=tenC hb6
  have kf:=obj_free hb6 5
  have HG6:Hid (w6.heap[g]?=some (.cells #[.int .i64 n.next,.int .i64 dst,.string key,.int .i64 amt] 79 (0,0))):=hgr6.block g (obj_lt HGZ) (fun e=>HCG e.symm) |>.trans HGZ
  clear hown6 hgr6 hwh6 hb6 hS6 hk6 HSZ HNZ HGZ
  refine wpAny_one 9 rfl (by kernel_rfl) (by rfl) ?_
  go_simp
  refine wpAny_one 10 rfl (by kernel_rfl) (by rfl) ?_
  go_simp
  refine wpAny_one 11 rfl (by kernel_rfl) (by rfl) ?_
  go_simp
  refine wpAny_one 12 rfl (by kernel_rfl) (by rfl) ?_
  go_simp
  refine wpAny_done (by kernel_rfl) ?_
  go_simp
  have hgb:g≠wb:=by omega
  go_upto_region 8 with fail
  refine wp_at (fun V8 hV=>?_)
  obtain⟨A8,G8,col8,HS8⟩:∃A8 G8 col8,Hid (WK w0 V8 wb (setOut (setPu n rl) (n.out++[⟨n.next,dst,key,amt⟩])) A8 G8 col8 v L):=⟨_,_,_,by rw [hV];exact HS6⟩
  have HG8:Hid (V8.heap[g]?=some (.cells #[.int .i64 n.next,.int .i64 dst,.string key,.int .i64 amt] 79 (0,0))):=by rw [hV];exact oth_set HG6 hgb
  clear hV HS6 HG6 kf k0 k1 k2 k3 k4 k5 k6 k7 k8 k9
  obtain⟨c0,c1,c2,c3,c4,c5,c6,c7,c8,c9⟩:=tenC HS8.blk
  dsimp only[setPu,setOut] at c0 c1 c2 c3 c4 c5 c6 c7 c8 c9
  have kf3:=obj_free HS8.blk 3
  go_upto_region 9 with fail
  refine wp_at (fun V9 hV=>?_)
  have HS9:Hid (WK w0 V9 wb (paidN n dst key amt) A8 G8 col8 v L):=by rw [hV,unhide HPD];exact HS8.next (n.next+1)
  have HG9:Hid (V9.heap[g]?=some (.cells #[.int .i64 n.next,.int .i64 dst,.string key,.int .i64 amt] 79 (0,0))):=by rw [hV];exact oth_set HG8 hgb
  have hl9:(paidN n dst key amt).out.length≤1048600:=by rw [unhide HPD];simp;omega
  clear hV HS8 HG8 kf3 HPD c0 c1 c2 c3 c4 c5 c6 c7 c8 c9
  generalize paidN n dst key amt=n9 at *
  have HPY:=hide (fun p:Regrown=>implPayOf n9 A8 ⟨n.next,dst,key,amt⟩ (Gr V9 p) hl9 (GR.At.below HS9.no.at.o (below_regrown V9 p.d p.os)))
  have HSY:=hide (fun x (hx:Ge V9 x)=>wkSay w0 x wb n9 A8 G8 col8 v L (payM n9 ⟨n.next,dst,key,amt⟩) (by show key.size≤1048600;omega) (by omega) (HS9.step hx))
  generalize payM n9 ⟨n.next,dst,key,amt⟩=pm at *
  obtain⟨qK,qF,qT,qI,qL,qk,qN⟩:=pm
  obtain⟨c0,c1,c2,c3,c4,c5,c6,c7,c8,c9⟩:=tenC HS9.blk
  obtain⟨s0,s1,s2,s3⟩:=fourC HG9
  have y0:=cell_regrown c0
  have y1:=cell_regrown c1
  have y2:=cell_regrown c2
  have y3:=cell_regrown c3
  have y4:=cell_regrown c4
  have y5:=cell_regrown c5
  have y6:=cell_regrown c6
  have y7:=cell_regrown c7
  have y8:=cell_regrown c8
  have x0:=cell_regrown s0
  have x1:=cell_regrown s1
  have x2:=cell_regrown s2
  have x3:=cell_regrown s3
  have hg9:=obj_lt HG9
  have hw9:=obj_lt HS9.blk
  clear c0 c1 c2 c3 c4 c5 c6 c7 c8 c9 s0 s1 s2 s3
  refine wp_region_mixE 7 (by kernel_rfl) ?_
  show wpMixE _ _ _ _ _ 8 (Array.replicate 8 false) _ _
  refine tk [0,1,2,3,4,5] ?_
  iterate 6 (refine tkE (fun K hK=>?_);go_simp;refine hK _ ?_;clear hK K)
  refine tkN ?_
  refine wpMixE_take 6 20 rfl (by kernel_rfl) (by kernel_rfl) (by kernel_rfl) (by kernel_rfl) (by kernel_rfl) (fun _ _ _ _ h=>h) (fun K hK=>?_)
  go_simp
  first
   |(refine hK _ ?_;clear hK K)
   |(apply Exists.intro
     refine⟨fun _=>?_,hK _ ?_⟩
     (exact HPY _)
     clear hK K)
  clear y0 y1 y2 y3 y4 y5 y6 y7 y8 x0 x1 x2 x3
  refine wpMixE_leave (by kernel_rfl) (fun x hx=>?_)
  have HSX:=hide (HSY x hx)
  clear hx
  refine wpAny_one 7 rfl (by kernel_rfl) (by rfl) ?_
  go_simp
  refine HSX.mono ?_
  rintro e y9 ⟨rfl,c',v',hY⟩
  have HY:=hide hY
  clear hY HSX
  refine wpAny_done (by kernel_rfl) ?_
  go_simp
  go_wp2_with fail
  go_ret
  have hG:=unhide HG
  subst hG
  exact⟨rfl,A8,G8,c',v',HY⟩
theorem wkPay (w0 w:World) (wb:Nat) (n:Nd) (A:Ads) (G:Blks) (c:Nat→Nat) (v:Value) (L:List Mg) (dst:Int) (key:ByteArray) (a:Int) (E:Nat→Addr) (hok:ndOk n=true) (hkey:keyOk key.data.toList=true) (ha1:1≤a) (ha2:a≤1000000000) (hL:L.length≤2097100) (h:WK w0 w wb n A G c v L) (he:Errs w0 E):
 Calls Tryz.prog 165 #[.pointer (some ⟨wb,0,none⟩),.int .i64 dst,.string key,.int .i64 a] w fun e w'=>e= .returned (.bool (giveN n dst key a).2.2)∧∃A' G' c' v',WK w0 w' wb (giveN n dst key a).1 A' G' c' v' (L++(giveN n dst key a).2.1):=by
 obtain⟨_,_,_,hnx,ho,_⟩:=ndOk_parts hok;have hnx1:1≤n.next∧n.next≤1000000000:=by simpa [smB] using hnx
 have hol:=(outs_asc ho).2.1
 have hgn:(n.out.length=40∨n.next=1000000000)→giveN n dst key a=(n,[],false):=fun hx=>by
  unfold giveN payB
  rw [if_neg (by rw [decide_eq_false (fun hy=>by omega)];simp)]
 by_cases h40:n.out.length=40
 ·rw [hgn (.inl h40)];refine(wkPay_full w0 w wb n A G c v L dst key a h40 h).mono ?_;exact Za117
 ·by_cases hl:n.next=1000000000
  ·rw [hgn (.inr hl)];refine(wkPay_last w0 w wb n A G c v L dst key a (by omega) hl h).mono ?_;exact Za117
  ·exact wkPay_some w0 w wb n A G c v L dst key a E hok hkey ha1 ha2 hL (by omega) (by omega) h he
end Go.Proofs.YtppmcficiphgdaaGreatDoor
namespace Go.Proofs.YtppmcficiphgdaaGreatDoor
set_option maxHeartbeats 1000000
set_option maxRecDepth 100000
open Go.RowKit
open Mth
theorem implIndex (a:Option Addr) (cap:Nat) (l:List Int) (x:Int) (w:World) (hl:l.length≤1048600) (ha:IntsAt w a l):
 Calls Tryz.prog 221 #[.slice a l.length cap,.int .i64 x] w fun e w'=>(∃i:Int,e= .returned (.int .i64 i)∧decide (0≤i)=hasB l x)∧w=w':=by
 have HA:=hide ha;clear ha;go_enter Tryz.func221,Tryz.ntmps221
 go_wp2_with fail;go_loop [8] (fun i=>∃k:Nat,k≤l.length∧i= .int .i64 k∧hasB (l.take k) x=false) (fun i=>l.length - (intOf i).toNat)
 case atStart=>exact⟨0,Nat.zero_le _,rfl,rfl⟩
 case round=>
  obtain⟨k,hk,rfl,hno⟩:=hrel;have HN:=hide hno;clear hno;by_cases hlt:k < l.length
  ·obtain⟨g,off,rfl,hgw,q0⟩:=IntsAt.one HA k hlt;by_cases hx:l[k]=x
   ·have HY:=hide (has_yes l x k hlt hx);rw [hx] at q0;clear hx;go_wp2_with fail;go_ret;exact⟨⟨k,rfl,by rw [unhide HY];simp⟩,rfl⟩
   ·have HS:=hide (has_snoc l x k hlt);rw [decide_eq_false hx] at HS;have hx':¬(x=l[k]):=fun h=>hx h.symm
    exact Za59
  ·open Sa77 in exact Ya17
theorem implContains (a:Option Addr) (cap:Nat) (l:List Int) (x:Int) (w:World) (hl:l.length≤1048600) (ha:IntsAt w a l):
 Calls Tryz.prog 192 #[.slice a l.length cap,.int .i64 x] w fun e w'=>e= .returned (.bool (hasB l x))∧w=w':=by
 have HI:=hide (implIndex a cap l x w hl ha);clear ha;go_enter Tryz.func192,Tryz.ntmps192
 go_wp2_with fail;refine HI.mono ?_;rintro e w1 ⟨⟨i,rfl,hi⟩,rfl⟩;have HD:=hide hi;clear hi;go_wp2_with fail;go_ret;exact⟨ret_bool HD,rfl⟩
theorem implIsKid (n:Nd) (A:Ads) (x:Int) (w:World) (hl:n.kids.length≤1048600) (ha:IntsAt w A.k n.kids):
 Calls Tryz.prog 167 #[ndv n A,.int .i64 x] w fun e w'=>e= .returned (.bool (hasB n.kids x))∧Below w.heap.size w w':=by
 have HH:=hide (implContains A.k A.ck n.kids x (w.alloc (.cells (ndc n A) 30)) hl (GR.At.below ha (below_one w _)));clear ha;go_enter Tryz.func167,Tryz.ntmps167
 go_wp2_with (go_at_call 192;refine HH.mono ?_;rintro e w1 ⟨rfl,rfl⟩)
 go_ret;exact⟨rfl,below_one w _⟩
def Mth.nearI (n:Nd) (x:Int):Bool:=ndB x&&(decide (x=n.par)||hasB n.kids x)
theorem Mth.near_same {n:Nd} (h:placeB n=true) (x:Int):nearI n x=nearB n x:=by
 obtain⟨h1,_,h3⟩:=place_kids h
 have hp:n.par≤29:=by
  unfold placeB at h;simp only[Bool.and_eq_true] at h;exact(of_decide_eq_true h.1.1.1.2).2
 unfold nearI nearB;cases hh:hasB n.kids x
 ·simp only[Bool.or_false];by_cases hx:x=n.par
  ·by_cases h0:0≤x
   ·simp[ndB,hx];omega
   ·simp[ndB,hx];omega
  ·simp[hx]
 ·have h2:=h1 x ((has_iff _ _).1 hh);unfold kidB at h2;simp only[Bool.and_eq_true] at h2;rw [h2.1.1];simp
theorem implNear (n:Nd) (A:Ads) (x:Int) (w:World) (hl:n.kids.length≤1048600) (ha:IntsAt w A.k n.kids):
 Calls Tryz.prog 152 #[ndv n A,.int .i64 x] w fun e w'=>e= .returned (.bool (nearI n x))∧Below w.heap.size w w':=by
 have HK:=hide (implIsKid n A x (w.alloc (.cells (ndc n A) 30)) hl (GR.At.below ha (below_one w _)));clear ha;cases h0:ndB x
 ·have HN:=hide (show nearI n x=false by simp[nearI,h0]);have HA:=hide (fun w1=>isNode x false w1 h0);clear h0;exact Za83
 ·have HA:=hide (fun w1=>isNode x true w1 h0);by_cases h1:x=n.par
  ·have HN:=hide (show nearI n x=true by unfold nearI;rw [h0,decide_eq_true h1];rfl);have h2:(x == n.par)=true:=by simp[h1]
   clear h1 h0;exact Za83
  ·have HN:=hide (show nearI n x=hasB n.kids x by simp[nearI,h1,h0]);have h2:(x == n.par)=false:=by simp[h1]
   clear h1 h0;go_enter Tryz.func152,Tryz.ntmps152
   go_wp2_with (first|(go_at_call 150;refine(HA _).mono ?_;rintro e w1 ⟨rfl,rfl⟩)|(go_at_call 167;refine HK.mono ?_;rintro e w2 ⟨rfl,hb2⟩))
   go_ret;exact⟨ret_bool HN.symm,(below_one w _).trans (hb2.mono (by simp))⟩
end Go.Proofs.YtppmcficiphgdaaGreatDoor
