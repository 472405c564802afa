/-
  Parts of proofs that stand more than once, each said once.
-/
import Derived.Test.YtacgbldlonoaaaaGreatDoorRows
import Derived.Deep.DeepCutAuto
import Derived.Deep.CutBlock
import Derived.Lib.QuietBelow
import Derived.OpenShut
import Derived.Stop.LaidTwo
import Derived.LaidHandle
import Derived.OpenVars
import Derived.WalkSpells
import Derived.ShutString
import Derived.Laws.Cover1
import Derived.Laws.AppendOwnNone
import Derived.Shelf.Spec.SearchS
import Derived.Deep.RegionHeldLaw
import Derived.Deep.AppendLies
import Derived.Lib.BufferWrite
import Derived.Laws.CopyOwn
import Derived.Lib.ItoaLen
import Derived.Sort.OwnSortedInts
import Derived.Stop.Asserts
import Derived.Shelf.Spec.SlicesInsertGrow
import Derived.Maps.Ext
import Derived.Lib.SlMapFilter
import Derived.Shelf.SlIterI.Nil
import Derived.Shelf.SortM.Plain
import Derived.Shelf.SortM.SortNone
import Derived.Laws.EntriesVeiled
namespace Go.Proofs.YtacgbldlonoaaaaGreatDoor
set_option maxRecDepth 100000
variable{P:Prop}
theorem Zb0(h:P:=by
 open avv in exact Yb3):P:=h
theorem Zb1(h:P:=by
 go_wp2_with fail;go_quiet (fail);go_wp2_with fail;go_roundw
 case rel=>exact⟨k+1,_,by omega,by go_num,rfl⟩
 case measure=>simp[intOf];omega):P:=h
theorem Zb2(h:P:=by
 go_wp2
 go_ret;refine⟨rfl,?_,(Below.refl _ _).alloc (Nat.le_refl _) _⟩
 exact⟨_,len,cap,0,x,heap_alloc_new w _,Nat.zero_le _,hlen,fun j hj=>by
  obtain⟨b',off',z',e,hb',z0',z1',hz'⟩:=ah as0 j hj
  exact⟨b',off',z',e,hb',z0',z1',by rw [World.cell?_alloc_lt _ _ ⟨b',off'+j,none⟩ hb'];exact hz'⟩⟩):P:=h
theorem Zb3(h:P:=by
 exact⟨fun h=>by omega,fun h=>by omega,fun h=>by omega,fun _ _ _=>by omega⟩):P:=h
theorem Zb4(h:P:=by
 obtain⟨g',off,e,hl,_⟩:=hr.p 0 hp;have hx':A.p.map (fun y=>y.block)=some x:=hx;have:=hr.cp x hx' hp;have e2:x=g':=by rw [e] at hx';simpa using hx'.symm
 rw [e2] at this ⊢;rw [sm g' hl (by omega)];exact this):P:=h
theorem Zb5(h:P:=by
 have hke:k=l.length:=by omega
 subst hke;have hnlt:decide ((l.length:Int) < (l.length:Int))=false:=by simp
 go_wp2_with fail;go_ret;exact⟨rfl,asw w q⟩):P:=h
theorem Zb6(h:P:=by
 unfold dW;rw [if_neg (by omega),if_neg (by omega),if_neg (by omega),if_neg (by omega),if_neg (by omega),if_neg (by omega)]):P:=h
theorem Zb7(h:P:=by
 go_quiet (fail);go_wp2_with fail;go_meet
 case rel=>exact⟨rfl,_,rF w1 _ _⟩):P:=h
theorem Zb8(h:P:=by
 have Wt:=hide hc1;clear hc1;go_wp2
 go_ret;exact⟨_,rfl,List.getElem_mem hk,Wt,hk1⟩):P:=h
theorem Zb9(h:P:=by
 unfold World.setCell;simp only[Array.getElem?_modify];rw [if_pos trivial,h];rfl):P:=h
theorem au9(h:P:=by
 go_enter Tryz.func6,Tryz.ntmps6
 go_wp2
 go_ret;exact⟨by simp;omega,rfl⟩):P:=h
theorem ava(h:P:=by
 dsimp only at s0 s1 s2 s3 t0 t1 t2 t3;exact Zb1):P:=h
theorem Yb0(h:P:=by
 rintro e wf ⟨f,rfl,hin,hcx,hkx⟩;have HS2:=hide ((TW.new _).draw hcx hkx);clear hcx hkx hin TW;obtain⟨⟨c0,c1,c2,c3,c4,c5,c6,c7,c8,c9,c10⟩,f0,f1,f2,f3,f4,f5,f6,f7,f8,f9,f10⟩:=dP HS2.own;have hzg:=jh HS2.own;go_wp2_with fail;exact Kb0):P:=h
theorem Sb0.Kb0(h:P:=by
 go_meet
 case rel=>exact⟨rfl,⟨K,f,k,n,⟨mK,mF,mT,mI,mL,mk,mN⟩⟩,HS2.put 1 (.int .i64 f) rfl,gs,gm⟩):P:=h
theorem Sb1.Kb0(h:P:=by
 go_meet
 case rel=>exact⟨rfl,⟨K,no,k,f,⟨mK,mF,mT,mI,mL,mk,mN⟩⟩,HS2.put 3 (.int .i64 f) rfl,gs,gm⟩):P:=h
theorem Sb2.Kb0(h:P:=by
 go_meet
 case rel=>exact⟨rfl,⟨f,no,k,n,⟨mK,mF,mT,mI,mL,mk,mN⟩⟩,HS2.put 0 (.int .i64 f) rfl,gs,gm⟩):P:=h
theorem Sb3.Kb0(h:P:=by
 go_meet
 case rel=>exact⟨rfl,⟨6,0,⟨#[]⟩,0,⟨0,f,1,0,0,key,(1+y)⟩⟩,HS2.far (o':=⟨6,0,⟨#[]⟩,0,⟨0,f,1,0,0,key,(1+y)⟩⟩) (Nr (Below.refl _ _) (Nat.le_refl _)) (abh HS2.own),by dsimp only;first|exact hks|decide,by dsimp only;first|exact hks|decide⟩):P:=h
theorem Yb1(h:P:=by
 obtain⟨⟨c0,c1,c2,c3,c4,c5,c6,c7,c8,c9,c10⟩,f0,f1,f2,f3,f4,f5,f6,f7,f8,f9,f10⟩:=dP TW.own;have hzg:=jh TW.own;go_wp2_with fail;exact Kb1):P:=h
theorem Sb4.Kb1(h:P:=by
 go_meet
 case rel=>exact⟨rfl,⟨K,no,k,n,⟨mK,9,mT,mI,mL,mk,mN⟩⟩,TW.put 5 (.int .i64 9) rfl,gs,gm⟩):P:=h
theorem Sb5.Kb1(h:P:=by
 go_meet
 case rel=>exact⟨rfl,⟨5,0,⟨#[]⟩,0,⟨0,0,0,0,0,⟨#[]⟩,0⟩⟩,TW.far (o':=⟨5,0,⟨#[]⟩,0,⟨0,0,0,0,0,⟨#[]⟩,0⟩⟩) (Nr (Below.refl _ _) (Nat.le_refl _)) (abh TW.own),by dsimp only;first|exact hks|decide,by dsimp only;first|exact hks|decide⟩):P:=h
theorem Sb6.Kb1(h:P:=by
 go_meet
 case rel=>exact⟨rfl,⟨4,0,key,(1+y),⟨0,0,0,0,0,⟨#[]⟩,0⟩⟩,TW.far (o':=⟨4,0,key,(1+y),⟨0,0,0,0,0,⟨#[]⟩,0⟩⟩) (Nr (Below.refl _ _) (Nat.le_refl _)) (abh TW.own),by dsimp only;first|exact hks|decide,by dsimp only;first|exact hks|decide⟩):P:=h
theorem Sb7.Kb1(h:P:=by
 go_meet
 case rel=>exact⟨rfl,⟨3,0,key,(1+y),⟨0,0,0,0,0,⟨#[]⟩,0⟩⟩,TW.far (o':=⟨3,0,key,(1+y),⟨0,0,0,0,0,⟨#[]⟩,0⟩⟩) (Nr (Below.refl _ _) (Nat.le_refl _)) (abh TW.own),by dsimp only;first|exact hks|decide,by dsimp only;first|exact hks|decide⟩):P:=h
theorem Sb8.Kb1(h:P:=by
 go_meet
 case rel=>exact⟨rfl,⟨0,0,key,(1+y),⟨0,0,0,0,0,⟨#[]⟩,0⟩⟩,TW.far (o':=⟨0,0,key,(1+y),⟨0,0,0,0,0,⟨#[]⟩,0⟩⟩) (Nr (Below.refl _ _) (Nat.le_refl _)) (abh TW.own),by dsimp only;first|exact hks|decide,by dsimp only;first|exact hks|decide⟩):P:=h
theorem Yb2(h:P:=by
 go_enter Tryz.func122,Tryz.ntmps122
 go_wp2_with fail;generalize wrap64 (wrap64 (h*6364136223846793005)+1442695040888963407)=h';go_quiet (fail);go_wp2_with fail;have hx:=at7 (bits BinOp.xor IntKind.i64 (h' / 8589934592) (h' / 35184372088832));generalize bits BinOp.and IntKind.i64 (bits BinOp.xor IntKind.i64 (h' / 8589934592) (h' / 35184372088832)) 255=x at *;obtain⟨hx0,hx1⟩:=hx;go_quiet (fail);exact Kb2):P:=h
theorem Sb9.Kb2(h:P:=by
 go_wp2
 go_ret;refine⟨x,rfl,hx0,hx1,?_,?_⟩
 ·have:=atr (h':=h') HB hil hlen as0;first|exact this|exact this.drewN
 ·first|exact Keeps.set _|exact(Keeps.set _).drewN|exact(Keeps.set _).drewN.drewN):P:=h
theorem avt.Kb2(h:P:=by
 go_wp2_with fail;go_quiet (fail);have hy:=at7 (x+z);generalize bits BinOp.and IntKind.i64 (x+z) 255=y at *;obtain⟨hy0,hy1⟩:=hy;go_wp2
 go_ret;refine⟨y,rfl,hy0,hy1,?_,?_⟩
 ·have:=atJ (i':=i+1) (h':=h') HB (by omega) hlen as0;simp only[Int.natCast_add,Int.natCast_one] at this;first|exact this|exact this.drewN
 ·first|exact((Keeps.set _).trans (Keeps.set _))|exact((Keeps.set _).trans (Keeps.set _)).drewN):P:=h
theorem Yb3(h:P:=by
 clear hz0 hz1;go_wp2_with fail;refine(asj c 12 _ TW.cur (by omega) (by omega)).mono ?_;rintro e wp ⟨p,rfl,hp0,hp1,hcx,hkx⟩;have HS2:=hide (TW.draw hcx hkx);clear hcx hkx TW;obtain⟨⟨c0,c1,c2,c3,c4,c5,c6,c7,c8,c9,c10⟩,f0,f1,f2,f3,f4,f5,f6,f7,f8,f9,f10⟩:=dP HS2.own;have hzg:=jh HS2.own;go_wp2_with fail;exact Kb3):P:=h
theorem avu.Kb3(h:P:=by
 go_meet
 case rel=>exact⟨rfl,⟨2,(1+p),⟨#[]⟩,0,⟨0,0,0,0,0,⟨#[]⟩,0⟩⟩,HS2.far (o':=⟨2,(1+p),⟨#[]⟩,0,⟨0,0,0,0,0,⟨#[]⟩,0⟩⟩) (Nr (Below.refl _ _) (Nat.le_refl _)) (abh HS2.own),by dsimp only;first|exact hks|decide,by dsimp only;first|exact hks|decide⟩):P:=h
theorem avv.Kb3(h:P:=by
 go_meet
 case rel=>exact⟨rfl,⟨1,(1+p),key,(1+y),⟨0,0,0,0,0,⟨#[]⟩,0⟩⟩,HS2.far (o':=⟨1,(1+p),key,(1+y),⟨0,0,0,0,0,⟨#[]⟩,0⟩⟩) (Nr (Below.refl _ _) (Nat.le_refl _)) (abh HS2.own),by dsimp only;first|exact hks|decide,by dsimp only;first|exact hks|decide⟩):P:=h
theorem Yb4(h:P:=by
 have hke:k=out.length:=by omega
 subst hke;have hnlt:decide ((out.length:Int) < (out.length:Int))=false:=by simp
 exact Kb4):P:=h
theorem avw.Kb4(h:P:=by
 have HB3:=hide (HB2.trans ((asw w2 q).mono HB2.size));have HA3:=hide (aj HA2 (asw w2 q));have PD:=hide (aj uF (asw w2 q));clear UH au7;go_wp2_with fail;clear c0 c1 c2 c3 c4 c5 c6 c7 c8 e0 e1 e2 e3 e4 e5 e6 e7 e8;generalize w2.drewN q=w3 at *;clear HB2 HA2 uF;go_loopw [6] (fun i wr=>∃k:Nat,k≤seen.length∧i= .int .i64 k∧Below w3.heap.size w3 wr) (fun i _=>seen.length - (intOf i).toNat)
 case atStart=>exact⟨0,Nat.zero_le _,rfl,Below.refl _ _⟩
 case round=>
  obtain⟨k,hk,rfl,hbel⟩:=hrel;have fD:=hide hbel;have nK:=hide (HB3.trans (hbel.mono HB3.size));have HA4:=hide (aj HA3 hbel);have HC4:=hide (aj PD hbel);clear hbel;obtain⟨c0,c1,c2,c3,c4,c5,c6,c7,c8⟩:=nine HA4;obtain⟨e0,e1,e2,e3,e4,e5,e6,e7,e8⟩:=nine HC4;by_cases hlt:k < seen.length
  ·obtain⟨g1,o1,b1,d1,rfl,hg1,s0,s1,s2,s3⟩:=O7.s.below nK k hlt;obtain⟨g2,o2,b2,d2,rfl,hg2,t0,t1,t2,t3⟩:=MR.s.below nK k hlt;have hln:=HZ.sk seen[k] (List.getElem_mem hlt);have p0:∀d os,Calls Tryz.prog 48 #[.slice b1 seen[k].ids.length d1,.slice b2 seen[k].ids.length d2] (Sort.grow (redrawn wr d) os) fun e w''=>e= .returned (.bool true)∧∃p:Regrown,w''=Sort.grow (redrawn wr p.d) p.os:=fun d os=>Calls.regrown_of (HSI b1 b2 d1 d2 seen[k].ids _ hln (GR.At.below s3 (below_regrown wr d os)) (GR.At.below t3 (below_regrown wr d os)))
   clear s3 t3 hln;generalize seen[k]=x at *;obtain⟨xf,xl,xs⟩:=x;dsimp only at s0 s1 s2 t0 t1 t2 p0;go_upto_region 11 with fail;have y0:=cell_regrown c6;have y1:=cell_regrown e6;have y2:=cell_regrown s0;have y3:=cell_regrown s1;have y4:=cell_regrown s2;have y5:=cell_regrown t0;have y6:=cell_regrown t1;have y7:=cell_regrown t2;refine wp_region_quiet_below (by kernel_rfl) (by kernel_rfl) ?_;repeat (first|go_big_quiet_step (first|(go_at_call 48;exact p0 _ _))|quiet_step (first|(go_at_call 48;exact p0 _ _)))
   refine wpQuiet_nil ?_;intro _ hw';obtain⟨⟨dq,osq⟩,hw''⟩:=hw';subst hw'';have jX:=hide (fD.trans ((below_regrown wr dq osq).mono fD.size));clear p0;go_wp2_with fail;go_roundw
   case rel=>exact⟨k+1,by omega,by go_num,jX⟩
   case measure=>simp[intOf];omega
  ·have hke:k=seen.length:=by omega
   subst hke;have hnlt:decide ((seen.length:Int) < (seen.length:Int))=false:=by simp
   have CB:=hide (GR.At.below O7.r nK);have avr:=hide (GR.At.below MR.r nK);have au6:=hide (iD.trans (nK.mono iD.size));clear HA3 PD HB3 fD O7 MR HSI M8;go_wp2_with fail;go_loopw [7] (fun i w5=>∃k q:Nat,k≤reqs.length∧i= .int .i64 k∧w5=wr.drewN q) (fun i _=>reqs.length - (intOf i).toNat)
   case atStart=>exact⟨0,0,Nat.zero_le _,rfl,rfl⟩
   case round=>
    obtain⟨k,q,hk,rfl,rfl⟩:=hrel;by_cases hlt:k < reqs.length
    ·obtain⟨g1,o1,rfl,hg1,s0,s1,s2,s3⟩:=iA.four CB k hlt;obtain⟨g2,o2,rfl,hg2,t0,t1,t2,t3⟩:=iA.four avr k hlt;generalize reqs[k]=x at *;obtain⟨xo,xk,xn,xs⟩:=x;exact ava
    ·have hke:k=reqs.length:=by omega
     subst hke;have hnlt:decide ((reqs.length:Int) < (reqs.length:Int))=false:=by simp
     go_wp2_with fail;go_ret;exact⟨rfl,au6.trans ((asw wr q).mono au6.size)⟩):P:=h
theorem avx.Kb4(h:P:=by
 go_wp2_with fail;go_ret;have hS:=ah TW;rw [List.take_length] at hS;exact⟨rfl,v,hS⟩):P:=h
theorem Yb5(h:P:=by
 have hbw:Below (w.heap.size+1) W w':=⟨hg.os,hg.tape,hg.output,hg.size,fun y hy=>hg.block y (by have:=aA h.res;omega) (fun e=>by have:=(hrow y e.symm).1;omega)⟩;have hbg:w'.heap[g]?=W.heap[g]?:=hg.block g hgl (fun e=>(hrow g e.symm).2 rfl);exact Kb5):P:=h
theorem avy.Kb5(h:P:=by
 have hR:=h.rm.reqs hgl (aA h.res) hv ho' hg hw;rw [hv2] at hrun;refine⟨a',c',w',hrun,hbg,h.far (hbw.trans ((Below.refl _ w').setCell (p:=⟨g,8,none⟩) h.glt _)) ?_ hR.set ?_⟩
 ·have e:=bg (hbg.trans h.own) 8 (.slice a' (n.reqs.length+1) c');simpa [fZ] using e
 ·have hz:=h.sz;refine⟨hz.k,hz.p,hz.o,hz.s,?_,hz.pk,hz.ok,hz.sk,fun y hy=>?_⟩
  ·show(n.reqs++[x]).length≤1048576
   rw [List.length_append,List.length_singleton];omega
  ·rcases List.mem_append.1 hy with h1|h1
   ·exact hz.rk y h1
   ·rw [List.mem_singleton] at h1;rw [h1];exact hx):P:=h
theorem avz.Kb5(h:P:=by
 have hR:=h.rm.out hgl (aA h.res) hv ho' hg hw;rw [hv2] at hrun;refine⟨a',c',w',hrun,hbg,h.far (hbw.trans ((Below.refl _ w').setCell (p:=⟨g,5,none⟩) h.glt _)) ?_ hR.set ?_⟩
 ·have e:=bg (hbg.trans h.own) 5 (.slice a' (n.out.length+1) c');simpa [fZ] using e
 ·have hz:=h.sz;refine⟨hz.k,hz.p,?_,hz.s,hz.r,hz.pk,fun y hy=>?_,hz.sk,hz.rk⟩
  ·show(n.out++[x]).length≤1048576
   rw [List.length_append,List.length_singleton];omega
  ·rcases List.mem_append.1 hy with h1|h1
   ·exact hz.ok y h1
   ·rw [List.mem_singleton] at h1;rw [h1];exact hx):P:=h
end Go.Proofs.YtacgbldlonoaaaaGreatDoor
