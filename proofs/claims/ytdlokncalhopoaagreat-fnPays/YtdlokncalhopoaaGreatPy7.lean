/- Parts. -/
import Derived.Test.YtdlokncalhopoaaGreatPy3
import Derived.Test.YtdlokncalhopoaaGreatPy5
import Derived.Test.YtdlokncalhopoaaGreatPy6
import Derived.Deep.RegionHeldLaw
import Derived.Deep.AppendLies
namespace Go.Proofs.YtdlokncalhopoaaGreat
set_option maxHeartbeats 4000000
set_option maxRecDepth 100000
open Go.RowKit
open Mth
namespace Mth
instance:Inhabited Mg:=⟨⟨0,0,0,0,0,ByteArray.empty,0⟩⟩
abbrev encM (m:Mg):List Value:=[.int .i64 m.K,.int .i64 m.F,.int .i64 m.T,.int .i64 m.I,.int .i64 m.L,.string m.k,.int .i64 m.N]
theorem encM_length (m:Mg):(encM m).length=7:=rfl
theorem encM_one:∀(m:Mg),∀u∈encM m,u.oneCell'=true:=by
 intro m u hu
 simp only[encM,List.mem_cons,List.not_mem_nil,or_false] at hu
 rcases hu with rfl|rfl|rfl|rfl|rfl|rfl|rfl<;>rfl
def lowOf (l:List Snt) (t ab:Int):Int:=((l.find? fun o=>decide (o.t=t)).map (·.i)).getD ab
def payM (n:Nd) (s:Snt):Mg:=⟨1,n.id,s.t,s.i,lowOf n.out s.t s.i,s.k,s.n⟩
def paysL (n:Nd):List Mg:=if ndOk n then n.out.map (payM n) else[]
theorem find_stepG {α:Type} (f:α→Bool) (l:List α) (i:Nat) (hi:i < l.length) (h:(l.take i).find? f=none):(f l[i]=true→l.find? f=some l[i])∧(f l[i]=false→(l.take (i+1)).find? f=none):=by
 constructor
 ·intro hf
  have e:l=l.take i++l[i]::l.drop (i+1):=by rw [←List.drop_eq_getElem_cons hi,List.take_append_drop]
  have h2:(l.take i++l[i]::l.drop (i+1)).find? f=some l[i]:=by
   rw [List.find?_append,h,List.find?_cons,hf]
   rfl
  rw [←e] at h2
  exact h2
 ·intro hf
  rw [List.take_succ_eq_append_getElem hi,List.find?_append,h,List.find?_cons,hf]
  rfl
theorem low_yes {l:List Snt} {t ab:Int} {k:Nat} (hk:k < l.length) (h:(l.take k).find? (fun o=>decide (o.t=t))=none) (ht:(l[k]).t=t):lowOf l t ab=(l[k]).i:=by
 unfold lowOf
 rw [(find_stepG _ l k hk h).1 (decide_eq_true ht)]
 rfl
theorem low_step {l:List Snt} {t:Int} {k:Nat} (hk:k < l.length) (h:(l.take k).find? (fun o=>decide (o.t=t))=none) (ht:¬(l[k]).t=t):(l.take (k+1)).find? (fun o=>decide (o.t=t))=none:=
 (find_stepG _ l k hk h).2 (decide_eq_false ht)
theorem low_no {l:List Snt} {t ab:Int} (h:(l.take l.length).find? (fun o=>decide (o.t=t))=none):lowOf l t ab=ab:=by
 rw [List.take_length] at h
 unfold lowOf
 rw [h]
 rfl
end Mth
theorem infoMsg:(Tryz.prog.info? 37).map (fun i=>(i.zero,i.size,i.bytes))=some (some (.agg #[.int .i64 0,.int .i64 0,.int .i64 0,.int .i64 0,.int .i64 0,.string ByteArray.empty,.int .i64 0]),7,64):=by kernel_rfl
abbrev MsgsAt (w:World) (a:Option Addr) (l:List Mg):Prop:=GR.At encM 7 w a l
theorem MsgsAt.seven {w:World} {a:Option Addr} {l:List Mg} (h:MsgsAt w a l) (i:Nat) (hi:i < l.length):∃g off,a=some ⟨g,off,none⟩∧g < w.heap.size∧w.cell? ⟨g,off+i*7,none⟩=some (.int .i64 l[i].K)∧w.cell? ⟨g,off+i*7+1,none⟩=some (.int .i64 l[i].F)∧w.cell? ⟨g,off+i*7+2,none⟩=some (.int .i64 l[i].T)∧w.cell? ⟨g,off+i*7+3,none⟩=some (.int .i64 l[i].I)∧w.cell? ⟨g,off+i*7+4,none⟩=some (.int .i64 l[i].L)∧w.cell? ⟨g,off+i*7+5,none⟩=some (.string l[i].k)∧w.cell? ⟨g,off+i*7+6,none⟩=some (.int .i64 l[i].N):=by
 obtain⟨g,off,e,hg,hc⟩:=h i hi
 refine⟨g,off,e,hg,?_,?_,?_,?_,?_,?_,?_⟩
 ·simpa using hc 0 (by omega)
 ·simpa [Nat.add_assoc] using hc 1 (by omega)
 ·simpa [Nat.add_assoc] using hc 2 (by omega)
 ·simpa [Nat.add_assoc] using hc 3 (by omega)
 ·simpa [Nat.add_assoc] using hc 4 (by omega)
 ·simpa [Nat.add_assoc] using hc 5 (by omega)
 ·simpa [Nat.add_assoc] using hc 6 (by omega)
theorem sevenC {w:World} {g:Nat} {v0 v1 v2 v3 v4 v5 v6:Value} {t:TypeId} (h:w.heap[g]?=some (.cells #[v0,v1,v2,v3,v4,v5,v6] t (0,0))):
 w.cell? ⟨g,0,none⟩=some v0∧w.cell? ⟨g,1,none⟩=some v1∧w.cell? ⟨g,2,none⟩=some v2∧w.cell? ⟨g,3,none⟩=some v3∧w.cell? ⟨g,4,none⟩=some v4∧w.cell? ⟨g,5,none⟩=some v5∧w.cell? ⟨g,6,none⟩=some v6:=by
 have hc:∀i,w.cell? ⟨g,i,none⟩=#[v0,v1,v2,v3,v4,v5,v6][i]?:=fun i=>cell_of_row w g i _ t (0,0) h
 exact⟨hc 0,hc 1,hc 2,hc 3,hc 4,hc 5,hc 6⟩
theorem seven_setN {w:World} {g:Nat} {a0 a1 a2 a3 a4 a5 a6 b0 b1 b2 b3 b4 b5 b6:Value} {t:TypeId} (h:w.heap[g]?=some (.cells #[a0,a1,a2,a3,a4,a5,a6] t (0,0))):
 (((((((w.setCell ⟨g,0,none⟩ b0).setCell ⟨g,1,none⟩ b1).setCell ⟨g,2,none⟩ b2).setCell ⟨g,3,none⟩ b3).setCell ⟨g,4,none⟩ b4).setCell ⟨g,5,none⟩ b5).setCell ⟨g,6,none⟩ b6).heap[g]?=some (.cells #[b0,b1,b2,b3,b4,b5,b6] t (0,0)):=by
 have h0:(w.setCell ⟨g,0,none⟩ b0).heap[g]?=some (.cells #[b0,a1,a2,a3,a4,a5,a6] t (0,0)):=blk_setO h 0 b0
 have h1:((w.setCell ⟨g,0,none⟩ b0).setCell ⟨g,1,none⟩ b1).heap[g]?=some (.cells #[b0,b1,a2,a3,a4,a5,a6] t (0,0)):=blk_setO h0 1 b1
 have h2:(((w.setCell ⟨g,0,none⟩ b0).setCell ⟨g,1,none⟩ b1).setCell ⟨g,2,none⟩ b2).heap[g]?=some (.cells #[b0,b1,b2,a3,a4,a5,a6] t (0,0)):=blk_setO h1 2 b2
 have h3:((((w.setCell ⟨g,0,none⟩ b0).setCell ⟨g,1,none⟩ b1).setCell ⟨g,2,none⟩ b2).setCell ⟨g,3,none⟩ b3).heap[g]?=some (.cells #[b0,b1,b2,b3,a4,a5,a6] t (0,0)):=blk_setO h2 3 b3
 have h4:(((((w.setCell ⟨g,0,none⟩ b0).setCell ⟨g,1,none⟩ b1).setCell ⟨g,2,none⟩ b2).setCell ⟨g,3,none⟩ b3).setCell ⟨g,4,none⟩ b4).heap[g]?=some (.cells #[b0,b1,b2,b3,b4,a5,a6] t (0,0)):=blk_setO h3 4 b4
 have h5:((((((w.setCell ⟨g,0,none⟩ b0).setCell ⟨g,1,none⟩ b1).setCell ⟨g,2,none⟩ b2).setCell ⟨g,3,none⟩ b3).setCell ⟨g,4,none⟩ b4).setCell ⟨g,5,none⟩ b5).heap[g]?=some (.cells #[b0,b1,b2,b3,b4,b5,a6] t (0,0)):=blk_setO h4 5 b5
 exact blk_setO h5 6 b6
theorem seven_keepsN {w:World} {g:Nat} {b0 b1 b2 b3 b4 b5 b6:Value}:KeepsL [g] w (((((((w.setCell ⟨g,0,none⟩ b0).setCell ⟨g,1,none⟩ b1).setCell ⟨g,2,none⟩ b2).setCell ⟨g,3,none⟩ b3).setCell ⟨g,4,none⟩ b4).setCell ⟨g,5,none⟩ b5).setCell ⟨g,6,none⟩ b6):=
 ((((((KeepsL.set b0).trans (KeepsL.set b1)).trans (KeepsL.set b2)).trans (KeepsL.set b3)).trans (KeepsL.set b4)).trans (KeepsL.set b5)).trans (KeepsL.set b6)
abbrev zm7:Array Value:=#[.int .i64 0,.int .i64 0,.int .i64 0,.int .i64 0,.int .i64 0,.string ⟨#[]⟩,.int .i64 0]
theorem specLow (n:Nd) (A:Ads) (t ab:Int) (w:World) (hl:n.out.length≤1048600) (ha:SentAt w A.o n.out):
 Calls Tryz.prog 39 #[ndv n A,.int .i64 t,.int .i64 ab] w fun e w'=>e= .returned (.int .i64 (lowOf n.out t ab))∧Below w.heap.size w w':=by
 have HA:=hide (GR.At.below ha (below_one w (.cells (ndc n A) 30)))
 have hblk:=heap_alloc_new w (.cells (ndc n A) 30)
 obtain⟨c0,c1,c2,c3,c4,c5,c6,c7,c8⟩:=nine hblk
 have HLY:=hide (fun k hk h=> @low_yes n.out t ab k hk h)
 have HLS:=hide (fun k hk h=> @low_step n.out t k hk h)
 have HLN:=hide (@low_no n.out t ab)
 clear ha hblk
 generalize lowOf n.out t ab=LO at *
 obtain⟨id,par,kids,next,pu,out,seen,old,reqs⟩:=n
 obtain⟨ak,ap,ao,as',ar,ck,cp,co,cs,cr⟩:=A
 dsimp only at hl HA HLY HLS HLN c0 c1 c2 c3 c4 c5 c6 c7 c8 ⊢
 go_enter Tryz.func39,Tryz.ntmps39
 go_wp2_with fail
 go_loop [7] (fun i=>∃k:Nat,k≤out.length∧i= .int .i64 k∧(out.take k).find? (fun o=>decide (o.t=t))=none) (fun i=>out.length - (intOf i).toNat)
 case atStart=>exact⟨0,Nat.zero_le _,rfl,rfl⟩
 case round=>
  obtain⟨k,hk,rfl,hno⟩:=hrel
  have HN:=hide hno
  clear hno
  by_cases hlt:k < out.length
  ·obtain⟨g,off,e0,hgw,q0,q1,q2,q3⟩:=SentAt.four (unhide HA) k hlt
   subst e0
   by_cases ht:(out[k]).t=t
   ·have HY:=hide (unhide HLY k hlt (unhide HN) ht)
    have hb:((out[k]).t == t)=true:=by simp[ht]
    clear ht HLY HLS HLN
    generalize out[k]=sk at *
    obtain⟨si,st,sx,sn⟩:=sk
    dsimp only at q0 q1 q2 q3 hb HY
    go_wp2_with fail
    go_ret
    exact⟨ret_int (unhide HY).symm,below_one w _⟩
   ·have HS:=hide (unhide HLS k hlt (unhide HN) ht)
    have hb:((out[k]).t == t)=false:=by simp[ht]
    clear ht HLY HLS HLN
    generalize out[k]=sk at *
    obtain⟨si,st,sx,sn⟩:=sk
    dsimp only at q0 q1 q2 q3 hb
    go_wp2_with fail
    go_round
    case rel=>exact⟨k+1,by omega,by go_num,unhide HS⟩
    case measure=>simp[intOf];omega
  ·have hke:k=out.length:=by omega
   subst hke
   have hnlt:decide ((out.length:Int) < (out.length:Int))=false:=by simp
   have HF:=hide (unhide HLN (unhide HN))
   go_wp2_with fail
   go_ret
   exact⟨ret_int (unhide HF).symm,below_one w _⟩
theorem implPayOf (n:Nd) (A:Ads) (s:Snt) (w:World) (hl:n.out.length≤1048600) (ha:SentAt w A.o n.out):
 Calls Tryz.prog 38 #[ndv n A,SentV s] w fun e w'=>e= .returned (mgv (payM n s))∧Below w.heap.size w w':=by
 have HA:=hide ha
 have HLY:=hide (fun k hk h=> @low_yes n.out s.t s.i k hk h)
 have HLS:=hide (fun k hk h=> @low_step n.out s.t k hk h)
 have HLN:=hide (@low_no n.out s.t s.i)
 have HPM:Hid (payM n s=⟨1,n.id,s.t,s.i,lowOf n.out s.t s.i,s.k,s.n⟩):=rfl
 obtain⟨hP,hR,hO,hB⟩:=allocs3 w (.cells (ndc n A) 30) (.cells #[.int .i64 s.i,.int .i64 s.t,.string s.k,.int .i64 s.n] 40) (.cells zm7 37)
 have HP:=hide hP
 have HR:=hide hR
 have HO:=hide hO
 have HB:=hide hB
 clear ha hP hR hO hB
 rw [unhide HPM]
 generalize lowOf n.out s.t s.i=LO at *
 obtain⟨id,par,kids,next,pu,out,seen,old,reqs⟩:=n
 obtain⟨ak,ap,ao,as',ar,ck,cp,co,cs,cr⟩:=A
 obtain⟨si,st,sx,sn⟩:=s
 dsimp only at hl HA HLY HLS HLN HP HR HO HB ⊢
 obtain⟨c0,c1,c2,c3,c4,c5,c6,c7,c8⟩:=nine (unhide HP)
 obtain⟨d0,d1,d2,d3⟩:=fourC (unhide HR)
 go_enter Tryz.func38,Tryz.ntmps38
 go_wp2_with fail
 go_loopw [5,13] (fun lv i wr=>∃k:Nat,k≤out.length∧i= .int .i64 k∧lv= .int .i64 si∧(out.take k).find? (fun o=>decide (o.t=st))=none∧Below (((w.alloc (.cells (ndc ⟨id,par,kids,next,pu,out,seen,old,reqs⟩ ⟨ak,ap,ao,as',ar,ck,cp,co,cs,cr⟩) 30)).alloc (.cells #[.int .i64 si,.int .i64 st,.string sx,.int .i64 sn] 40)).alloc (.cells zm7 37)).heap.size (((w.alloc (.cells (ndc ⟨id,par,kids,next,pu,out,seen,old,reqs⟩ ⟨ak,ap,ao,as',ar,ck,cp,co,cs,cr⟩) 30)).alloc (.cells #[.int .i64 si,.int .i64 st,.string sx,.int .i64 sn] 40)).alloc (.cells zm7 37)) wr) (fun _ i _=>out.length - (intOf i).toNat)
 case atStart=>exact⟨0,Nat.zero_le _,rfl,rfl,rfl,Below.refl _ _⟩
 case round=>
  obtain⟨k,hk,rfl,rfl,hno,hbx⟩:=hrel
  have HN:=hide hno
  have HP1:=hide (obj_step (unhide HP) hbx)
  have HR1:=hide (obj_step (unhide HR) hbx)
  have HO1:=hide (obj_step (unhide HO) hbx)
  have HB1:=hide ((unhide HB).trans (hbx.mono (unhide HB).size))
  have HBX:=hide hbx
  clear hno hbx c0 c1 c2 c3 c4 c5 c6 c7 c8 d0 d1 d2 d3
  obtain⟨c0,c1,c2,c3,c4,c5,c6,c7,c8⟩:=nine (unhide HP1)
  obtain⟨d0,d1,d2,d3⟩:=fourC (unhide HR1)
  have hrz:=obj_lt (unhide HO1)
  have hrz1:w.heap.size+1 < wr.heap.size:=by omega
  have hrz0:w.heap.size < wr.heap.size:=by omega
  by_cases hlt:k < out.length
  ·obtain⟨g,off,e0,hgw,q0,q1,q2,q3⟩:=SentAt.four (GR.At.below (unhide HA) (unhide HB1)) k hlt
   (try dsimp only at e0 q0 q1 q2 q3)
   subst e0
   by_cases ht:(out[k]).t=st
   ·have HY:=hide (unhide HLY k hlt (unhide HN) ht)
    have hb:((out[k]).t == st)=true:=by simp[ht]
    clear ht HLY HLS HLN
    generalize out[k]=sk at *
    obtain⟨ui,ut,ux,un⟩:=sk
    dsimp only at q0 q1 q2 q3 hb HY
    have hyy:=unhide HY
    subst hyy
    go_upto_region 8 with fail
    refine wp_at (fun W3 hW3=>?_)
    have hbw:Below wr.heap.size wr W3:=by rw [hW3];exact below_one wr _
    have HP3:=hide (obj_step (unhide HP1) hbw)
    have HR3:=hide (obj_step (unhide HR1) hbw)
    have HO3:=hide (obj_step (unhide HO1) hbw)
    have HB3:=hide ((unhide HB1).trans (hbw.mono (unhide HB1).size))
    clear hW3 hbw c0 c1 c2 c3 c4 c5 c6 c7 c8 d0 d1 d2 d3
    obtain⟨c0,c1,c2,c3,c4,c5,c6,c7,c8⟩:=nine (unhide HP3)
    obtain⟨d0,d1,d2,d3⟩:=fourC (unhide HR3)
    obtain⟨r0,r1,r2,r3,r4,r5,r6⟩:=sevenC (unhide HO3)
    have f0:=obj_free (unhide HO3) 0
    have f1:=obj_free (unhide HO3) 1
    have f2:=obj_free (unhide HO3) 2
    have f3:=obj_free (unhide HO3) 3
    have f4:=obj_free (unhide HO3) 4
    have f5:=obj_free (unhide HO3) 5
    have f6:=obj_free (unhide HO3) 6
    go_wp2_with fail
    refine bodyPost_atN (fun W' hW'=>?_)
    have hR:=seven_setN (b0:= .int .i64 1) (b1:= .int .i64 id) (b2:= .int .i64 st) (b3:= .int .i64 si) (b4:= .int .i64 LO) (b5:= .string sx) (b6:= .int .i64 sn) (unhide HO3)
    have hK:=seven_keepsN (w:=W3) (g:=w.heap.size+1+1) (b0:= .int .i64 1) (b1:= .int .i64 id) (b2:= .int .i64 st) (b3:= .int .i64 si) (b4:= .int .i64 LO) (b5:= .string sx) (b6:= .int .i64 sn)
    rw [←hW'] at hR hK
    obtain⟨x0,x1,x2,x3,x4,x5,x6⟩:=sevenC hR
    refine bodyPost_ret (v:= .agg #[.int .i64 1,.int .i64 id,.int .i64 st,.int .i64 si,.int .i64 LO,.string sx,.int .i64 sn]) (by simp[results,Tryz.results38,go_sem,x0,x1,x2,x3,x4,x5,x6]) rfl ⟨rfl,(unhide HB3).trans (hK.below (fun x hx=>by have:x=w.heap.size+1+1:=(by simpa using hx);omega) (unhide HB3).size)⟩
   ·have HS:=hide (unhide HLS k hlt (unhide HN) ht)
    have hb:((out[k]).t == st)=false:=by simp[ht]
    clear ht HLY HLS HLN
    generalize out[k]=sk at *
    obtain⟨ui,ut,ux,un⟩:=sk
    dsimp only at q0 q1 q2 q3 hb
    go_wp2_with fail
    go_roundw
    case rel=>exact⟨k+1,by omega,by go_num,rfl,unhide HS,(unhide HBX).alloc (unhide HBX).size _⟩
    case measure=>simp[intOf];omega
  ·have hke:k=out.length:=by omega
   subst hke
   have hnlt:decide ((out.length:Int) < (out.length:Int))=false:=by simp
   have hyy:=unhide HLN (unhide HN)
   clear HLY HLS HLN
   subst hyy
   go_upto_region 8 with fail
   refine wp_at (fun W3 hW3=>?_)
   have hbw:Below wr.heap.size wr W3:=by rw [hW3];exact Below.refl _ _
   have HP3:=hide (obj_step (unhide HP1) hbw)
   have HR3:=hide (obj_step (unhide HR1) hbw)
   have HO3:=hide (obj_step (unhide HO1) hbw)
   have HB3:=hide ((unhide HB1).trans (hbw.mono (unhide HB1).size))
   clear hW3 hbw c0 c1 c2 c3 c4 c5 c6 c7 c8 d0 d1 d2 d3
   obtain⟨c0,c1,c2,c3,c4,c5,c6,c7,c8⟩:=nine (unhide HP3)
   obtain⟨d0,d1,d2,d3⟩:=fourC (unhide HR3)
   obtain⟨r0,r1,r2,r3,r4,r5,r6⟩:=sevenC (unhide HO3)
   have f0:=obj_free (unhide HO3) 0
   have f1:=obj_free (unhide HO3) 1
   have f2:=obj_free (unhide HO3) 2
   have f3:=obj_free (unhide HO3) 3
   have f4:=obj_free (unhide HO3) 4
   have f5:=obj_free (unhide HO3) 5
   have f6:=obj_free (unhide HO3) 6
   go_wp2_with fail
   refine bodyPost_atN (fun W' hW'=>?_)
   have hR:=seven_setN (b0:= .int .i64 1) (b1:= .int .i64 id) (b2:= .int .i64 st) (b3:= .int .i64 LO) (b4:= .int .i64 LO) (b5:= .string sx) (b6:= .int .i64 sn) (unhide HO3)
   have hK:=seven_keepsN (w:=W3) (g:=w.heap.size+1+1) (b0:= .int .i64 1) (b1:= .int .i64 id) (b2:= .int .i64 st) (b3:= .int .i64 LO) (b4:= .int .i64 LO) (b5:= .string sx) (b6:= .int .i64 sn)
   rw [←hW'] at hR hK
   obtain⟨x0,x1,x2,x3,x4,x5,x6⟩:=sevenC hR
   refine bodyPost_ret (v:= .agg #[.int .i64 1,.int .i64 id,.int .i64 st,.int .i64 LO,.int .i64 LO,.string sx,.int .i64 sn]) (by simp[results,Tryz.results38,go_sem,x0,x1,x2,x3,x4,x5,x6]) rfl ⟨rfl,(unhide HB3).trans (hK.below (fun x hx=>by have:x=w.heap.size+1+1:=(by simpa using hx);omega) (unhide HB3).size)⟩
theorem nine_set {w:World} {g:Nat} {a0 a1 a2 a3 a4 a5 a6 a7 a8 b0 b1 b2 b3 b4 b5 b6 b7 b8:Value} {t:TypeId} (h:w.heap[g]?=some (.cells #[a0,a1,a2,a3,a4,a5,a6,a7,a8] t (0,0))):
 (((((((((w.setCell ⟨g,0,none⟩ b0).setCell ⟨g,1,none⟩ b1).setCell ⟨g,2,none⟩ b2).setCell ⟨g,3,none⟩ b3).setCell ⟨g,4,none⟩ b4).setCell ⟨g,5,none⟩ b5).setCell ⟨g,6,none⟩ b6).setCell ⟨g,7,none⟩ b7).setCell ⟨g,8,none⟩ b8).heap[g]?=some (.cells #[b0,b1,b2,b3,b4,b5,b6,b7,b8] t (0,0)):=by
 have h0:(w.setCell ⟨g,0,none⟩ b0).heap[g]?=some (.cells #[b0,a1,a2,a3,a4,a5,a6,a7,a8] t (0,0)):=blk_setO h 0 b0
 have h1:((w.setCell ⟨g,0,none⟩ b0).setCell ⟨g,1,none⟩ b1).heap[g]?=some (.cells #[b0,b1,a2,a3,a4,a5,a6,a7,a8] t (0,0)):=blk_setO h0 1 b1
 have h2:(((w.setCell ⟨g,0,none⟩ b0).setCell ⟨g,1,none⟩ b1).setCell ⟨g,2,none⟩ b2).heap[g]?=some (.cells #[b0,b1,b2,a3,a4,a5,a6,a7,a8] t (0,0)):=blk_setO h1 2 b2
 have h3:((((w.setCell ⟨g,0,none⟩ b0).setCell ⟨g,1,none⟩ b1).setCell ⟨g,2,none⟩ b2).setCell ⟨g,3,none⟩ b3).heap[g]?=some (.cells #[b0,b1,b2,b3,a4,a5,a6,a7,a8] t (0,0)):=blk_setO h2 3 b3
 have h4:(((((w.setCell ⟨g,0,none⟩ b0).setCell ⟨g,1,none⟩ b1).setCell ⟨g,2,none⟩ b2).setCell ⟨g,3,none⟩ b3).setCell ⟨g,4,none⟩ b4).heap[g]?=some (.cells #[b0,b1,b2,b3,b4,a5,a6,a7,a8] t (0,0)):=blk_setO h3 4 b4
 have h5:((((((w.setCell ⟨g,0,none⟩ b0).setCell ⟨g,1,none⟩ b1).setCell ⟨g,2,none⟩ b2).setCell ⟨g,3,none⟩ b3).setCell ⟨g,4,none⟩ b4).setCell ⟨g,5,none⟩ b5).heap[g]?=some (.cells #[b0,b1,b2,b3,b4,b5,a6,a7,a8] t (0,0)):=blk_setO h4 5 b5
 have h6:(((((((w.setCell ⟨g,0,none⟩ b0).setCell ⟨g,1,none⟩ b1).setCell ⟨g,2,none⟩ b2).setCell ⟨g,3,none⟩ b3).setCell ⟨g,4,none⟩ b4).setCell ⟨g,5,none⟩ b5).setCell ⟨g,6,none⟩ b6).heap[g]?=some (.cells #[b0,b1,b2,b3,b4,b5,b6,a7,a8] t (0,0)):=blk_setO h5 6 b6
 have h7:((((((((w.setCell ⟨g,0,none⟩ b0).setCell ⟨g,1,none⟩ b1).setCell ⟨g,2,none⟩ b2).setCell ⟨g,3,none⟩ b3).setCell ⟨g,4,none⟩ b4).setCell ⟨g,5,none⟩ b5).setCell ⟨g,6,none⟩ b6).setCell ⟨g,7,none⟩ b7).heap[g]?=some (.cells #[b0,b1,b2,b3,b4,b5,b6,b7,a8] t (0,0)):=blk_setO h6 7 b7
 have h8:(((((((((w.setCell ⟨g,0,none⟩ b0).setCell ⟨g,1,none⟩ b1).setCell ⟨g,2,none⟩ b2).setCell ⟨g,3,none⟩ b3).setCell ⟨g,4,none⟩ b4).setCell ⟨g,5,none⟩ b5).setCell ⟨g,6,none⟩ b6).setCell ⟨g,7,none⟩ b7).setCell ⟨g,8,none⟩ b8).heap[g]?=some (.cells #[b0,b1,b2,b3,b4,b5,b6,b7,b8] t (0,0)):=blk_setO h7 8 b8
 exact h8
theorem nine_keeps {w:World} {g:Nat} {b0 b1 b2 b3 b4 b5 b6 b7 b8:Value}:KeepsL [g] w (((((((((w.setCell ⟨g,0,none⟩ b0).setCell ⟨g,1,none⟩ b1).setCell ⟨g,2,none⟩ b2).setCell ⟨g,3,none⟩ b3).setCell ⟨g,4,none⟩ b4).setCell ⟨g,5,none⟩ b5).setCell ⟨g,6,none⟩ b6).setCell ⟨g,7,none⟩ b7).setCell ⟨g,8,none⟩ b8):=
 ((((((((KeepsL.set b0).trans (KeepsL.set b1)).trans (KeepsL.set b2)).trans (KeepsL.set b3)).trans (KeepsL.set b4)).trans (KeepsL.set b5)).trans (KeepsL.set b6)).trans (KeepsL.set b7)).trans (KeepsL.set b8)
structure TN (w W:World) (P R O:Obj) (rows:List (Nat×Obj)):Prop where
 par:W.heap[w.heap.size]?=some P
 res:W.heap[w.heap.size+1]?=some R
 out:W.heap[w.heap.size+1+1]?=some O
 rows:∀x∈rows,w.heap.size+1+1 < x.1∧W.heap[x.1]?=some x.2
 bel:Below w.heap.size w W
theorem TN.step {w W W':World} {P R O:Obj} {rows:List (Nat×Obj)} (h:TN w W P R O rows) (hb:Below W.heap.size W W'):TN w W' P R O rows:=
 ⟨obj_step h.par hb,obj_step h.res hb,obj_step h.out hb,fun x hx=>⟨(h.rows x hx).1,obj_step (h.rows x hx).2 hb⟩,h.bel.trans (hb.mono h.bel.size)⟩
theorem TN.add {w W:World} {P R O:Obj} {rows:List (Nat×Obj)} (h:TN w W P R O rows) (more:List (Nat×Obj)) (hm:∀x∈more,w.heap.size+1+1 < x.1∧W.heap[x.1]?=some x.2):TN w W P R O (rows++more):=
 ⟨h.par,h.res,h.out,fun x hx=>by rcases List.mem_append.1 hx with hx|hx;exact h.rows x hx;exact hm x hx,h.bel⟩
theorem TN.put {w W:World} {P R:Obj} {cs:Array Value} {t:TypeId} {rows:List (Nat×Obj)} (h:TN w W P R (.cells cs t (0,0)) rows) (i:Nat) (v:Value):TN w (W.setCell ⟨w.heap.size+1+1,i,none⟩ v) P R (.cells (cs.setIfInBounds i v) t (0,0)) rows:=
 ⟨oth_set h.par (by omega),oth_set h.res (by omega),blk_setO h.out i v,fun x hx=>⟨(h.rows x hx).1,oth_set (h.rows x hx).2 (by have:=(h.rows x hx).1;omega)⟩,h.bel.setCell (p:=⟨w.heap.size+1+1,i,none⟩) (by show w.heap.size≤w.heap.size+1+1;omega) v⟩
theorem SeenW.of {w:World} {g:Nat} {T:List R3} {I:Nat→Nat} {l:List Sn} (hT:r3Blk w g T) (hl:T.length=l.length) (h:∀i,i < l.length→T[i]?=some ⟨(l.getD i default).f,(l.getD i default).l,.slice (some ⟨I i,0,none⟩) (l.getD i default).ids.length (l.getD i default).ids.length⟩∧intBlk w (I i) (l.getD i default).ids):SeenW w (some ⟨g,0,none⟩) g I l:=by
 refine⟨T,GR.W.of_blk encR3_length hT,hl,fun i hi=>?_⟩
 have hd:l.getD i default=l[i]:=by rw [List.getD_eq_getElem?_getD,List.getElem?_eq_getElem hi];rfl
 obtain⟨h1,h2⟩:=h i hi
 rw [hd] at h1 h2
 exact⟨_,_,h1,GR.W.of_blk encNum_length h2⟩
set_option maxHeartbeats 4000000
theorem step_append_ownM {P:Program} (w:World) {ops:Array Oper} {o:Oper} {a:Act} {K:Act→World→Prop} {Q:Exit→Act→World→Prop} {E:Prop} (hgd:o.guard=none) (s x:Operand) (t:TypeId)
 (ho:o.op= .call {callee:= .builtin .append,args:=#[s,x],argTypes:=#[t,t]})
 (base:Nat) (e:TypeId) (i:TypeInfo) (z:Value) (size bytes:Nat) (ht:P.underlying t=some (.slice e)) (hi:P.info? e=some i) (hz:i.zero=some z)
 (hsize:i.size=size) (hby:i.bytes=bytes) (hzs:z.cells.size=size) (hsz:0 < size)
 (v:Value) (n:Nat) (xs:List Value) (hs:a.eval s=v) (hown:w.ownsRow base e size v n xs)
 (ad:Addr) (m c:Nat) (news:List Value) (hx:a.eval x= .slice (some ad) m c) (hl:news.length=m*size) (hnews:∀j u,news[j]?=some u→w.cell? (ad.add j)=some u) (h1:∀u∈news,u.oneCell'=true)
 (h63:n+m≤maxLen) (hbytes:(n+m)*bytes≤140737488355328) (hbase:base≤w.heap.size)
 (h:∀v' w',w'.ownsRow base e size v' (n+m) (xs++news)→w.grownBy w' v.ownBlock→(v'= .slice none 0 0↔v= .slice none 0 0∧m=0)→K (a.put o.dst v') w'):
 if Region.wanted o (yielded ops a.tmps)=true then Oper.wp P o a w K Q else E:=by
 have hw:Region.wanted o (yielded ops a.tmps)=true:=by simp[Region.wanted,hgd]
 rw [if_pos hw]
 exact wp_append_own w s x t ho base e i z size bytes ht hi hz hsize hby hzs hsz v n xs hs hown ad m c news hx hl hnews h1 h63 hbytes hbase h
theorem grown_belowM {w w':World} {B:Nat} {row:Option Nat} (hk:w.grownBy w' row) (hg:∀k,row=some k→B≤k) (hB:B≤w.heap.size):Below B w w':=⟨hk.os,hk.tape,hk.output,hk.size,fun k hl=>hk.block k (by omega) (fun e=>by have:=hg k e.symm;omega)⟩
theorem GR.At.heap {α:Type} {enc:α→List Value} {sz:Nat} {w w1:World} {a:Option Addr} {l:List α} (h:GR.At enc sz w a l) (e:w1.heap=w.heap):GR.At enc sz w1 a l:=fun i hi=>by
 obtain⟨g,off,e0,hg,hc⟩:=h i hi
 exact⟨g,off,e0,by rw [e];exact hg,fun j hj=>(World.cell?_of_block (w:=w) (by rw [e])).trans (hc j hj)⟩
theorem far7 {w:World} {g h i:Nat} {u b0 b1 b2 b3 b4 b5 b6:Value} (hne:g≠h) (e:w.cell? ⟨h,i,none⟩=some u):
 (((((((w.setCell ⟨g,0,none⟩ b0).setCell ⟨g,1,none⟩ b1).setCell ⟨g,2,none⟩ b2).setCell ⟨g,3,none⟩ b3).setCell ⟨g,4,none⟩ b4).setCell ⟨g,5,none⟩ b5).setCell ⟨g,6,none⟩ b6).cell? ⟨h,i,none⟩=some u:=by
 rw [World.cell?_setCell_far _ _ _ _ hne,World.cell?_setCell_far _ _ _ _ hne,World.cell?_setCell_far _ _ _ _ hne,World.cell?_setCell_far _ _ _ _ hne,World.cell?_setCell_far _ _ _ _ hne,World.cell?_setCell_far _ _ _ _ hne,World.cell?_setCell_far _ _ _ _ hne]
 exact e
def GivesM (w:World) (L:List Mg) (e:Ending) (w':World):Prop:=∃a c,e= .returned (.slice a L.length c)∧∃g,GR.W encM 7 w' a g L∧(∀x∈fp g L,w.heap.size≤x∧x < w'.heap.size)∧Below w.heap.size w w'
theorem specPay (n:Nd) (A:Ads) (s:Snt) (w:World) (hl:n.out.length≤1048600) (ha:SentAt w A.o n.out):
 Calls Tryz.prog 15 #[ndv n A,SentV s] w fun e w'=>e= .returned (mgv (payM n s))∧Below w.heap.size w w':=by
 obtain⟨hP,hR,hO,hB⟩:=allocs3 w (.cells (ndc n A) 30) (.cells #[.int .i64 s.i,.int .i64 s.t,.string s.k,.int .i64 s.n] 40) (.cells zm7 37)
 have HPM:Hid (payM n s=⟨1,n.id,s.t,s.i,lowOf n.out s.t s.i,s.k,s.n⟩):=rfl
 have HLW:=hide (fun W (hb:Below w.heap.size w W) w1 (h:w1.heap=W.heap)=>specLow n A s.t s.i w1 hl (GR.At.heap (GR.At.below ha hb) h))
 rw [unhide HPM]
 generalize lowOf n.out s.t s.i=LO at *
 obtain⟨id,par,kids,next,pu,out,seen,old,reqs⟩:=n
 obtain⟨ak,ap,ao,as',ar,ck,cp,co,cs,cr⟩:=A
 obtain⟨si,st,sx,sn⟩:=s
 dsimp only at hl HLW hP hR hO hB ⊢
 have HP:=hide hP
 have HR:=hide hR
 have HO:=hide hO
 have HB:=hide hB
 clear ha hP hR hO hB HPM
 go_enter Tryz.func15,Tryz.ntmps15
 go_upto_region 1 with fail
 refine wp_at (fun W hW=>?_)
 rw [←hW] at HP HR HO HB
 have HLW1:=hide (unhide HLW W (unhide HB))
 have hz2:w.heap.size+1+1 < W.heap.size:=obj_lt (unhide HO)
 have hz1:w.heap.size+1 < W.heap.size:=by omega
 have hz0:w.heap.size < W.heap.size:=by omega
 have hne0:w.heap.size+1+1≠w.heap.size:=by omega
 have hne1:w.heap.size+1+1≠w.heap.size+1:=by omega
 clear hW HLW
 obtain⟨c0,c1,c2,c3,c4,c5,c6,c7,c8⟩:=nine (unhide HP)
 obtain⟨d0,d1,d2,d3⟩:=fourC (unhide HR)
 go_region_held (fun w'=>(w'.cell? ⟨w.heap.size,0,none⟩=some (.int .i64 id)∧w'.cell? ⟨w.heap.size,1,none⟩=some (.int .i64 par)∧w'.cell? ⟨w.heap.size,2,none⟩=some (.slice ak kids.length ck)∧w'.cell? ⟨w.heap.size,3,none⟩=some (.int .i64 next)∧w'.cell? ⟨w.heap.size,4,none⟩=some (.slice ap pu.length cp)∧w'.cell? ⟨w.heap.size,5,none⟩=some (.slice ao out.length co)∧w'.cell? ⟨w.heap.size,6,none⟩=some (.slice as' seen.length cs)∧w'.cell? ⟨w.heap.size,7,none⟩=some (.int .i64 old)∧w'.cell? ⟨w.heap.size,8,none⟩=some (.slice ar reqs.length cr))∧w'.cell? ⟨w.heap.size+1,0,none⟩=some (.int .i64 si)∧w'.cell? ⟨w.heap.size+1,1,none⟩=some (.int .i64 st)∧w'.cell? ⟨w.heap.size+1,2,none⟩=some (.string sx)∧w'.cell? ⟨w.heap.size+1,3,none⟩=some (.int .i64 sn)) (first|go_keep|(refine⟨⟨?_,?_,?_,?_,?_,?_,?_,?_,?_⟩,?_,?_,?_,?_⟩<;>first|exact far7 hne0 (by assumption)|exact far7 hne1 (by assumption)))
  (first
   |(go_at_call 39;refine(unhide HLW1 W.drew rfl).mono ?_;rintro e w5 ⟨rfl,hb5⟩;have hb6:Below W.heap.size W w5:=⟨hb5.os,hb5.tape,hb5.output,hb5.size,hb5.block⟩;clear hb5;have HP5:=hide (obj_step (unhide HP) hb6);have HR5:=hide (obj_step (unhide HR) hb6);have HO5:=hide (obj_step (unhide HO) hb6);have HB5:=hide ((unhide HB).trans (hb6.mono (unhide HB).size));clear hb6;obtain⟨y0,y1,y2,y3,y4,y5,y6,y7,y8⟩:=nine (unhide HP5);obtain⟨z0,z1,z2,z3⟩:=fourC (unhide HR5);obtain⟨r0,r1,r2,r3,r4,r5,r6⟩:=sevenC (unhide HO5);have f0:=obj_free (unhide HO5) 0;have f1:=obj_free (unhide HO5) 1;have f2:=obj_free (unhide HO5) 2;have f3:=obj_free (unhide HO5) 3;have f4:=obj_free (unhide HO5) 4;have f5:=obj_free (unhide HO5) 5;have f6:=obj_free (unhide HO5) 6))
 all_goals
  go_wp2_with fail
  refine bodyPost_atN (fun W' hW'=>?_)
  have hR:=seven_setN (b0:= .int .i64 1) (b1:= .int .i64 id) (b2:= .int .i64 st) (b3:= .int .i64 si) (b4:= .int .i64 LO) (b5:= .string sx) (b6:= .int .i64 sn) (unhide HO5)
  have hK:=seven_keepsN (w:=w5) (g:=w.heap.size+1+1) (b0:= .int .i64 1) (b1:= .int .i64 id) (b2:= .int .i64 st) (b3:= .int .i64 si) (b4:= .int .i64 LO) (b5:= .string sx) (b6:= .int .i64 sn)
  rw [←hW'] at hR hK
  obtain⟨x0,x1,x2,x3,x4,x5,x6⟩:=sevenC hR
  refine bodyPost_ret (v:= .agg #[.int .i64 1,.int .i64 id,.int .i64 st,.int .i64 si,.int .i64 LO,.string sx,.int .i64 sn]) (by simp[results,Tryz.results15,go_sem,x0,x1,x2,x3,x4,x5,x6]) rfl ⟨rfl,(unhide HB5).trans (hK.below (fun x hx=>by have:x=w.heap.size+1+1:=(by simpa using hx);omega) (unhide HB5).size)⟩
end Go.Proofs.YtdlokncalhopoaaGreat
