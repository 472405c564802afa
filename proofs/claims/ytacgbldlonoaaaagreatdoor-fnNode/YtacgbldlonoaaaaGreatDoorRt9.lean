/- Parts. -/
import Derived.Test.YtacgbldlonoaaaaGreatDoorRt2
namespace Go.Proofs.YtacgbldlonoaaaaGreatDoor
set_option maxHeartbeats 4000000
set_option maxRecDepth 100000
open Go.RowKit
open Mth
abbrev opv (K no:Int) (k:ByteArray) (nn:Int) (m:Mg):Value:= .agg #[.int .i64 K,.int .i64 no,.string k,.int .i64 nn,.int .i64 m.K,.int .i64 m.F,.int .i64 m.T,.int .i64 m.I,.int .i64 m.L,.string m.k,.int .i64 m.N]
theorem auf (w0 w2:World) (wb:Nat) (n:Nd) (A:bE) (K no:Int) (key:ByteArray) (nn:Int) (om:Mg) (hsz:eH n 1048600) (ha:SentAt w0 A.o n.out) (hb:Below w0.heap.size w0 w2) (hw:w0.heap.size≤wb) (h:WS w2 w2 wb n A (.slice none 0 0) []):
 Calls Tryz.prog 50 #[.pointer (some ⟨wb,0,none⟩),opv K no key nn om] w2 fun e w'=>e= .returned (.int .i64 0)∧∃v',WS w2 w' wb n A v' (n.out.map (lG n)):=by
 have za:=hide (fun s W (hb1:Below w0.heap.size w0 W) w1 (h1:w1.heap=W.heap)=>Dc n A s w1 hsz.o (GR.At.heap (GR.At.below ha hb1) h1));have iD:Hid (∀{wr v L},WS w2 wr wb n A v L→Below w0.heap.size w0 wr):=fun h1=>hb.trans (h1.keep.below (fun x hx=>by have:x=wb:=(by simpa using hx);omega) hb.size)
 have TY:=hide (fun w v L m h1 h2 h3=>aod w2 w wb n A v L m h1 h2 h3);have HKK:Hid (∀s∈n.out,(lG n s).k.size≤1048600):=fun s hs=>hsz.ok s hs
 have HAO:=hide ha;have HB2:=hide hb;have HS:=hide h;have hlo:=hsz.o;have hwb:=h.lt;clear ha hsz hb h;generalize lG n=PM at *;obtain⟨om0,om1,om2,om3,om4,om5,om6⟩:=om;obtain⟨id,par,kids,next,pu,out,seen,old,reqs⟩:=n;obtain⟨ak,ap,ao,as',ar,ck,cp,co,cs,cr⟩:=A;dsimp only at hlo HAO za HKK ⊢;obtain⟨c0,c1,c2,c3,c4,c5,c6,c7,c8,c9⟩:=gY HS.blk;go_enter Tryz.func50,Tryz.ntmps50
 go_wp2_with fail;go_loopw [13] (fun i wr=>∃(k:Nat) (v:Value),k≤out.length∧i= .int .i64 k∧WS w2 wr wb ⟨id,par,kids,next,pu,out,seen,old,reqs⟩ ⟨ak,ap,ao,as',ar,ck,cp,co,cs,cr⟩ v ((out.take k).map PM)) (fun i _=>out.length - (intOf i).toNat)
 case atStart=>exact⟨0,.slice none 0 0,Nat.zero_le _,rfl,HS.step (au w2 _)⟩
 case round=>
  obtain⟨k,v,hk,rfl,hS⟩:=hrel;have TW:=hide hS;have hsw:=hS.keep.size;clear hS c0 c1 c2 c3 c4 c5 c6 c7 c8 c9;by_cases hlt:k < out.length
  ·obtain⟨g,off,e0,hg,q0,q1,q2,q3⟩:=SentAt.four (GR.At.below HAO (iD TW)) k hlt;have HKk:=hide (HKK out[k] (List.getElem_mem hlt));have aax:=hide (za out[k]);have HT:=hide (show(out.take (k+1)).map PM=(out.take k).map PM++[PM out[k]] by rw [List.take_succ_eq_append_getElem hlt,List.map_append];rfl);have HVL:Hid (∀x,v.ownBlock=some x→x < wr.heap.size):=fun x e=>(TW.own.lt x e).2
   have hln:((out.take k).map PM).length≤2097200:=by rw [List.length_map,List.length_take];omega
   generalize out[k]=sk at *;generalize PM sk=mk at *;obtain⟨si,st,sx,sn⟩:=sk;obtain⟨mK,mF,mT,mI,mL,mk,mN⟩:=mk;dsimp only at q0 q1 q2 q3 HKk;subst e0;have hgw:g < wr.heap.size:=by omega
   go_upto_region 4 with fail;refine wp_at (fun W3 hW3=>?_);have hbw:Below wr.heap.size wr W3:=by rw [hW3];exact au wr _
   have HR3:Hid (W3.heap[wr.heap.size]?=some (.cells #[.int .i64 si,.int .i64 st,.string sx,.int .i64 sn] 95 (0,0))):=by rw [hW3];exact heap_alloc_new _ _
   have Xa:=hide (TW.step hbw);have aoo:=hide (aax W3 (iD Xa));clear hW3 hbw q0 q1 q2 q3;have hr3:wr.heap.size < W3.heap.size:=aA HR3;have hne:wb≠wr.heap.size:=by omega
   obtain⟨c0,c1,c2,c3,c4,c5,c6,c7,c8,c9⟩:=gY Xa.blk;obtain⟨d0,d1,d2,d3⟩:=eY HR3;clear c9
   go_region_held (fun w'=>(w'.cell? ⟨wb,0,none⟩=some (.int .i64 id)∧w'.cell? ⟨wb,1,none⟩=some (.int .i64 par)∧w'.cell? ⟨wb,2,none⟩=some (.slice ak kids.length ck)∧w'.cell? ⟨wb,3,none⟩=some (.int .i64 next)∧w'.cell? ⟨wb,4,none⟩=some (.slice ap pu.length cp)∧w'.cell? ⟨wb,5,none⟩=some (.slice (some ⟨g,off,none⟩) out.length co)∧w'.cell? ⟨wb,6,none⟩=some (.slice as' seen.length cs)∧w'.cell? ⟨wb,7,none⟩=some (.int .i64 old)∧w'.cell? ⟨wb,8,none⟩=some (.slice ar reqs.length cr))∧w'.cell? ⟨wr.heap.size,0,none⟩=some (.int .i64 si)∧w'.cell? ⟨wr.heap.size,1,none⟩=some (.int .i64 st)∧w'.cell? ⟨wr.heap.size,2,none⟩=some (.string sx)∧w'.cell? ⟨wr.heap.size,3,none⟩=some (.int .i64 sn)) (go_keep)
    (first
     |(go_at_call 126;refine(aoo W3.drew rfl).mono ?_;rintro e w5 ⟨rfl,hb5⟩;have hb6:Below W3.heap.size W3 w5:=⟨hb5.os,hb5.tape,hb5.output,hb5.size,hb5.block⟩;clear hb5;have HS5:=hide (Xa.step hb6);have Lp:=hide (aj HR3 hb6);clear hb6;obtain⟨y0,y1,y2,y3,y4,y5,y6,y7,y8,y9⟩:=gY HS5.blk;obtain⟨z0,z1,z2,z3⟩:=eY Lp;clear y9)
     |(go_at_call 125;refine(TY _ v _ ⟨mK,mF,mT,mI,mL,mk,mN⟩ HKk hln HS5).mono ?_;rintro e w6 ⟨rfl,v6,ZT,hK6⟩;have HS6:=hide ZT;have HR6:=hide (hK6.obj Lp (fun hx=>by(rcases List.mem_cons.1 hx with h|h);(exact absurd h (Ne.symm hne));(have:=ah HVL wr.heap.size (by simpa using h);omega)));clear ZT hK6;obtain⟨u0,u1,u2,u3,u4,u5,u6,u7,u8,u9⟩:=gY HS6.blk;obtain⟨t0,t1,t2,t3⟩:=eY HR6;clear u9))
   all_goals
    go_wp2_with fail
    go_roundw
    case rel=>exact⟨k+1,v6,by omega,by go_num,by rw [ah HT];exact HS6⟩
    case measure=>simp[intOf];omega
  ·open avx in exact Yb4
set_option maxHeartbeats 4000000
theorem aue (n:Nd) (A:bE) (w:World) (hsz:eH n 1048600) (ha:dQ w A n):
 Calls Tryz.prog 16 #[gu n A] w (wJ w (Te n)):=by
 have ku:=hide (fun W (hb:Below w.heap.size w W)=>tL n A W hsz (ha.below hb));obtain⟨L,hL⟩:∃L,Te n=L:=⟨_,rfl⟩;have FX:Hid (L=if dG n then n.out.map (lG n) else[]):=hL.symm;have JC:=hide (heap_alloc_new w (.cells (fZ n A) 30));have Ls:=hide (fun w2 wb K no k nn m hb hw h=>auf w w2 wb n A K no k nn m hsz ha.o hb hw h);rw [hL];clear hL ha hsz;generalize dG n=OK at *;generalize lG n=PM at *;obtain⟨id,par,kids,next,pu,out,seen,old,reqs⟩:=n;obtain⟨ak,ap,ao,as',ar,ck,cp,co,cs,cr⟩:=A;dsimp only at FX;go_enter Tryz.func16,Tryz.ntmps16
 go_wp2_with fail;refine(ku _ (au w _)).mono ?_;rintro e w1 ⟨rfl,hb1⟩;have HB1:=hide ((au w _).trans (hb1.mono (by simp)));have uL:=hide (aj JC hb1);clear hb1 JC ku;cases Ue:OK
 ·have HE:Hid (L=[]):=by rw [ah FX,Ue];rfl
  clear Ue FX;go_wp2_with fail;go_ret;rw [ah HE];exact⟨none,0,rfl,0,GR.W.nil,fun x hx=>by simp[fp] at hx,HB1⟩
 ·have HE:Hid (L=out.map PM):=by rw [ah FX,Ue];rfl
  clear Ue FX;obtain⟨c0,c1,c2,c3,c4,c5,c6,c7,c8⟩:=nine uL;go_upto_region 4 with fail;refine wp_at (fun W2 hW2=>?_);have hbw:Below w1.heap.size w1 W2:=by rw [hW2];exact au w1 _
  have HS2:Hid (WS W2 W2 w1.heap.size ⟨id,par,kids,next,pu,out,seen,old,reqs⟩ ⟨ak,ap,ao,as',ar,ck,cp,co,cs,cr⟩ (.slice none 0 0) []):=by
   have hblk:W2.heap[w1.heap.size]?=some (.cells (FE ⟨id,par,kids,next,pu,out,seen,old,reqs⟩ ⟨ak,ap,ao,as',ar,ck,cp,co,cs,cr⟩ (.slice none 0 0)) 74 (0,0)):=by rw [hW2];exact heap_alloc_new _ _
   exact⟨aC.refl _ _,hblk,World.ownsRow_nil _ _ _ _,aA hblk⟩
  have HB2:=hide (HB1.trans (hbw.mono HB1.size));have hz1:=HB1.size;have hz2:=hbw.size;have hwb:=HS2.lt;clear hW2 hbw c0 c1 c2 c3 c4 c5 c6 c7 c8;go_wp2_with fail;refine(Ls W2 w1.heap.size 0 0 ⟨#[]⟩ 0 ⟨0,0,0,0,0,⟨#[]⟩,0⟩ HB2 hz1 HS2).mono ?_;rintro e w5 ⟨rfl,v5,hS5⟩;obtain⟨va,vc,hv,_⟩:=GR.own_at (enc:=gX) (sz:=7) (l:=out.map PM) iR hS5.own;rw [List.length_map] at hv;subst hv;have HS5:=hide hS5;obtain⟨c0,c1,c2,c3,c4,c5,c6,c7,c8,c9⟩:=gY hS5.blk;clear hS5 c0 c1 c2 c3 c4 c5 c6 c7 c8;have HG:Hid (wJ w (out.map PM) (.returned (.slice va out.length vc)) w5):=wJ.of_own (B:=W2.heap.size) rfl HS5.own (by omega) (HB2.trans (HS5.keep.below (fun x hx=>by have:x=w1.heap.size:=(by simpa using hx);omega) (by omega)));go_wp2_with fail;go_ret;rw [ah HE];exact HG
set_option maxHeartbeats 2000000
theorem atd (w:World) (q:Nat):Below w.heap.size w (w.drewN q):=⟨rfl,rfl,rfl,Nat.le_refl _,fun _ _=>rfl⟩
theorem atU (a b:Option Addr) (ca cb:Nat) (l:List Mg) (w:World) (hl:l.length≤1048600) (ha:Qn w a l) (hb:Qn w b l):
 Calls Tryz.prog 15 #[.slice a l.length ca,.slice b l.length cb] w fun e w'=>e= .returned (.bool true)∧Below w.heap.size w w':=by
 have HA:=hide ha;have HB:=hide hb;clear ha hb;go_enter Tryz.func15,Tryz.ntmps15
 go_wp2_with fail;go_loopw [5] (fun i wr=>∃k q:Nat,k≤l.length∧i= .int .i64 k∧wr=w.drewN q) (fun i _=>l.length - (intOf i).toNat)
 case atStart=>exact⟨0,0,Nat.zero_le _,rfl,rfl⟩
 case round=>
  obtain⟨k,q,hk,rfl,rfl⟩:=hrel;by_cases hlt:k < l.length
  ·obtain⟨g1,o1,rfl,hg1,s0,s1,s2,s3,s4,s5,s6⟩:=Qn.seven HA k hlt;obtain⟨g2,o2,rfl,hg2,t0,t1,t2,t3,t4,t5,t6⟩:=Qn.seven HB k hlt;generalize l[k]=pu at *;obtain⟨pK,pF,pT,pI,pL,pk,pN⟩:=pu;dsimp only at s0 s1 s2 s3 s4 s5 s6 t0 t1 t2 t3 t4 t5 t6;exact Zb1
  ·have hke:k=l.length:=by omega
   subst hke;have hnlt:decide ((l.length:Int) < (l.length:Int))=false:=by simp
   go_wp2_with fail;go_ret;exact⟨rfl,atd w q⟩
theorem au0 (a b:Option Addr) (ca cb m:Nat) (l:List Mg) (w:World) (hm:l.length=m) (hl:m≤1048600) (ha:Qn w a l) (hb:Qn w b l):
 Calls Tryz.prog 15 #[.slice a m ca,.slice b m cb] w fun e w'=>e= .returned (.bool true)∧Below w.heap.size w w':=by
 subst hm;exact atU a b ca cb l w hl ha hb
def atp (w:World) (m:Nat) (L:List Mg) (e:Ending) (w':World):Prop:=∃a c,e= .returned (.slice a m c)∧Qn w' a L∧Below w.heap.size w w'
theorem wJ.lies {w w':World} {L:List Mg} {e:Ending} {m:Nat} (hm:L.length=m) (h:wJ w L e w'):atp w m L e w':=by
 subst hm;obtain⟨a,c,rfl,g,hW,_,hb⟩:=h;exact⟨a,c,rfl,hW.at,hb⟩
theorem auY (n:Nd) (A:bE) (w:World) (L:List Mg) (m:Nat) (hL:Te n=L) (hm:L.length=m) (hsz:eH n 1048576) (ha:dQ w A n):Calls Tryz.prog 16 #[gu n A] w (atp w m L):=by
 subst hL;exact(aue n A w (hsz.mono (by omega)) ha).mono (fun _ _ h=>h.lies hm)
theorem au2 (n:Nd) (A:bE) (w:World) (L:List Mg) (m:Nat) (hL:Te n=L) (hm:L.length=m) (hsz:eH n 1048576) (ha:dQ w A n):Calls Tryz.prog 17 #[gu n A] w (atp w m L):=by
 subst hL;exact(Tv n A w (hsz.mono (by omega)) ha).mono (fun _ _ h=>h.lies hm)
def au8 (k:IntKind) (w:World) (a:Option Addr) (len cap:Nat) (zs:List Int):Prop:=
 (a=none∧len=0∧cap=0∧zs=[])∨
 ∃x,a=some x∧len≤cap∧cap≤maxLen∧zs.length=cap∧(∀i,i < zs.length→w.cell? (x.add i)=some (.int k (zs.getD i 0)))∧∀n∈zs,(Lit.int k n).wf=true
theorem avn {w:World} {a:Option Addr} {len cap:Nat} {zs:List Int} (h:au8 .u8 w a len cap zs) (hl:len≤1048576):asA w a len:=by
 rcases h with⟨_,rfl,_⟩|⟨x,rfl,h1,_,h3,hc,hw⟩
 ·exact⟨by omega,fun j hj=>by omega⟩
 ·refine⟨hl,fun j hj=>?_⟩;have hj':j < zs.length:=by omega
  obtain⟨b,off,spot⟩:=x;have hc0:=hc 0 (by omega);have hspot:spot=none:=by simpa [Addr.add] using World.cell?_spot hc0
  subst hspot;have hcj:=hc j hj'
  have ave:w.cell? ⟨b,off+j,none⟩=some (.int .u8 (zs.getD j 0)):=by
   by_cases h0:j=0
   ·subst h0;simpa [Addr.add] using hcj
   ·simpa [Addr.add,h0] using hcj
  have hbl:b < w.heap.size:=by
   rcases Nat.lt_or_ge b w.heap.size with h'|h'
   ·exact h'
   ·simp[World.cell?,Array.getElem?_eq_none h'] at ave
  have hz:=bounds_u8 (hw (zs.getD j 0) (by simp[List.getD,hj']));exact⟨b,off,zs.getD j 0,rfl,hbl,hz.1,hz.2,ave⟩
theorem atv:(Tryz.prog.globals[2]?).map (·.type)=some 248:=by kernel_rfl
theorem aut:(Tryz.prog.globals[0]?).map (·.type)=some 248:=by kernel_rfl
theorem atu:(Tryz.prog.globals[1]?).map (·.type)=some 248:=by kernel_rfl
theorem aus:(Tryz.prog.globals[3]?).map (·.type)=some 248:=by kernel_rfl
theorem auc:(Tryz.prog.globals[4]?).map (·.type)=some 248:=by kernel_rfl
theorem atL:Tryz.prog.globalNamed "loop.example/g00264/impl.errNoPurses" =some 2:=by kernel_rfl
theorem auP:Tryz.prog.globalNamed "loop.example/g00264/impl.errNoKey" =some 0:=by kernel_rfl
theorem atK:Tryz.prog.globalNamed "loop.example/g00264/impl.errNoAmount" =some 1:=by kernel_rfl
theorem auO:Tryz.prog.globalNamed "loop.example/g00264/impl.errFewer" =some 3:=by kernel_rfl
theorem aur:Tryz.prog.globalNamed "loop.example/g00264/impl.errBeyond" =some 4:=by kernel_rfl
theorem aua:Tryz.prog.cellsOf 356=1:=by kernel_rfl
theorem aub:Tryz.prog.cellsOf 9=1:=by kernel_rfl
theorem atF: "*" ++ "errors.errorString" = "*errors.errorString" :=by decide
theorem auV (u:TypeId) (h:Tryz.prog.typeName? 3 u=some "*errors.errorString"):u=338:=
 typeName_ptr_named (nm:= "errors.errorString") (by rw [atF];kernel_rfl) (by kernel_rfl) (by decide) u (by rw [atF];exact h)
theorem atn {n:String} {text:List UInt8} {r:List (String×DataW Unit)} {W:World} {g:Nat} (h:laidMet Tryz.prog ((n,.iface "*errors.errorString" (.ptr (.agg [.lit (.string text)])))::r) W)
 (hg:Tryz.prog.globalNamed n=some g) (ht:(Tryz.prog.globals[g]?).map (·.type)=some 248):
 ∃(a:Addr) (s:ByteArray) (c:Array Value) (t:TypeId),W.cell? ⟨g,0,none⟩=some (qx a)∧W.cell? a=some (.string s)∧s.data.toList=text∧W.heap[a.block]?=some (.cells c t (0,0)):=by
 obtain⟨ps,⟨g0',t0',cs0,f0,p0,q0,hg0',ht0',hv0,hd0,_,e0⟩,hnd,hrows⟩:=h;obtain rfl:=Option.some.inj (hg.symm.trans hg0');obtain rfl:=Option.some.inj (ht.symm.trans ht0');subst e0;obtain⟨l0⟩:=cs0
 have ok0:∀u v,l0=[.iface u v]→Value.okWide Tryz.prog W .any 0 u v:=fun u v e=>by
  subst e
  exact(hrows g 0 (by simp[MemPlace.row])).2 u v (by simpa using World.var?_cell hg0' hv0 0)
 obtain⟨a0,s0,rfl,hc0,hs0,hz0,rfl⟩:=errorString_of_trod Tryz.underlying248 auV Tryz.underlying338 Tryz.underlying356 rfl rfl Tryz.underlying9 aua aub hd0 ok0;obtain⟨c0,t0,hb0⟩:=(hrows a0.block a0.off (by simp[MemPlace.row])).1;exact⟨a0,s0,c0,t0,by simpa using World.var?_cell hg0' hv0 0,hc0,hs0,hb0⟩
theorem apart {W:World} {a b:Addr} {s t:ByteArray} (ha:W.cell? a=some (.string s)) (hb:W.cell? b=some (.string t)) (hne:s.data.toList≠t.data.toList):a≠b:=fun e=>by
 rw [e,hb] at ha;injection ha with ha
 injection ha with ha
 exact hne (by rw [ha])
theorem avc {W:World} (h:laidMet Tryz.prog Rows.fnNodeRow.laid W):∃E,gW W E:=by
 obtain⟨a2,s2,k2,t2,v2,c2,x2,b2⟩:=atn h atL atv;have h1:=h.tail;obtain⟨a0,s0,k0,t0,v0,c0,x0,b0⟩:=atn h1 auP aut;have h2:=h1.tail;obtain⟨a1,s1,k1,t1,v1,c1,x1,b1⟩:=atn h2 atK atu;have h3:=h2.tail;obtain⟨a3,s3,k3,t3,v3,c3,x3,b3⟩:=atn h3 auO aus;have h4:=h3.tail;obtain⟨a4,s4,k4,t4,v4,c4,x4,b4⟩:=atn h4 aur auc;let E:Nat→Addr:=fun i=>if i=2 then a2 else if i=0 then a0 else if i=1 then a1 else if i=3 then a3 else a4
 let T:Nat→ByteArray:=fun i=>if i=2 then s2 else if i=0 then s0 else if i=1 then s1 else if i=3 then s3 else s4
 have hT:∀i,i < 5→W.cell? (E i)=some (.string (T i)):=fun i hi=>by
  have:i=0∨i=1∨i=2∨i=3∨i=4:=by omega
  rcases this with rfl|rfl|rfl|rfl|rfl
  all_goals first|exact c0|exact c1|exact c2|exact c3|exact c4
 refine⟨E,⟨fun i hi=>?_,fun i hi=>?_,fun i j hi hj hne=>apart (hT i hi) (hT j hj) ?_⟩⟩
 ·have:i=0∨i=1∨i=2∨i=3∨i=4:=by omega
  rcases this with rfl|rfl|rfl|rfl|rfl
  all_goals first|exact v0|exact v1|exact v2|exact v3|exact v4
 ·have:i=0∨i=1∨i=2∨i=3∨i=4:=by omega
  rcases this with rfl|rfl|rfl|rfl|rfl
  all_goals first|exact⟨_,_,b0⟩|exact⟨_,_,b1⟩|exact⟨_,_,b2⟩|exact⟨_,_,b3⟩|exact⟨_,_,b4⟩
 ·have hi':i=0∨i=1∨i=2∨i=3∨i=4:=by omega
  have hj':j=0∨j=1∨j=2∨j=3∨j=4:=by omega
  rcases hi' with rfl|rfl|rfl|rfl|rfl<;>rcases hj' with rfl|rfl|rfl|rfl|rfl
  all_goals first|exact absurd rfl hne|(simp[T,x0,x1,x2,x3,x4])
open Go
theorem as8 {H:Type} {enc:TypeId×Value→H} {P:Program} {w:World} {sp:Nat→Bool}:∀{ns:List String} {gs:List (DataW H)} {ps:List MemPlace},DataW.TrodVars enc P w sp ns gs ps→gs.length=ns.length
 |[],[],_,_=>rfl
 |[],_::_,_,h=>h.elim
 |_::_,[],_,h=>h.elim
 |_::ns,_::ds,_,h=>by
  obtain⟨_,_,_,_,_,_,_,_,_,_,hs,_⟩:=h
  have:=as8 hs
  simp[this]
theorem auW {α:Type} {gs:List α} (h:gs.length=5):∃a b c d e,gs=[a,b,c,d,e]:=by
 match gs,h with
 |[a,b,c,d,e],_=>exact⟨a,b,c,d,e,rfl⟩
end Go.Proofs.YtacgbldlonoaaaaGreatDoor
