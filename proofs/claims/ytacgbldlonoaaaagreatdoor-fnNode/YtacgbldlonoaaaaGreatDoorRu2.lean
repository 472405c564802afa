/- Parts. -/
import Derived.Test.YtacgbldlonoaaaaGreatDoorRt7
namespace Go.Proofs.YtacgbldlonoaaaaGreatDoor
set_option maxHeartbeats 8000000
set_option maxRecDepth 100000
open Go.RowKit
open Mth
def av3 (ops:Array Oper) (L:Array Bool):Prop:=∀i o,ops[i]?=some o→L.getD i false=true→∀e∈o.after,Region.binds .any e=true→L.getD e.on false=true
theorem av3.set {ops:Array Oper} {L:Array Bool} {i:Nat} (h:av3 ops L) (hi:i∈Region.ready .any ops L):av3 ops (L.setIfInBounds i true):=by
 obtain⟨_,o,ho,h2⟩:=mem_ready.1 hi
 have up:∀j,L.getD j false=true→(L.setIfInBounds i true).getD j false=true:=fun j hj=>by
  by_cases hij:i=j
  ·subst hij;rw [Array.getD_eq_getD_getElem?] at hj ⊢;rw [Array.getElem?_setIfInBounds_self];split<;>simp_all
  ·rw [getD_set_ne false hij];exact hj
 intro j oj hj hl e he hb;by_cases hij:i=j
 ·subst hij;rw [ho] at hj;cases hj
  exact up _ (h2 e he hb)
 ·rw [getD_set_ne false hij] at hl;exact up _ (h j oj hj hl e he hb)
theorem awe {P:Program} {ops:Array Oper} {Q:Exit→Act→World→Prop} {J:Nat→Array Bool→Act→World→Prop}
 (hs:∀f L a x,av3 ops L→J f L a x→wpAny P .any ops Q f L a x∨(∃f',f=f'+1∧Region.ready .any ops L≠[]∧∀i∈Region.ready .any ops L,wpOp P ops Q i (fun a' y=>J f' (L.setIfInBounds i true) a' y) a x))
 (f:Nat) (L:Array Bool) (a:Act) (x:World) (hc:av3 ops L) (hj:J f L a x):wpAny P .any ops Q f L a x:=by
 refine au4 (J:=fun f L a x=>av3 ops L∧J f L a x) (fun f L a x h=>?_) f L a x ⟨hc,hj⟩;rcases hs f L a x h.1 h.2 with h1|⟨f',e,hr,h1⟩
 ·exact .inl h1
 ·exact .inr ⟨f',e,hr,fun i hi=>wpOp_mono (fun a' y hy=>⟨h.1.set hi,hy⟩) (h1 i hi)⟩
def avZ (x:World) (c:Nat) (t:Value):Prop:=∃(kids:List Int) (g:Nat),t= .slice (some ⟨g,0,none⟩) kids.length kids.length∧kids.length≤5∧g < x.heap.size∧g≠c∧∀i (hi:i < kids.length),x.cell? ⟨g,i,none⟩=some (.int .i64 kids[i])
def av1 (x:World) (c:Nat) (v:Value) (zs:List Int):Prop:=∃h,v= .slice (some ⟨h,0,none⟩) zs.length zs.length∧h < x.heap.size∧h≠c∧∀i (hi:i < zs.length),x.cell? ⟨h,i,none⟩=some (.int .i64 zs[i])
def awn (v:Value):Prop:=∃z:Int,v= .int .i64 z
def awy (v:Value):Prop:=∃z:Nat,v= .int .i64 z∧z < 5
def av7 (x:World) (c:Nat) (v:Value):Prop:=∃g,v= .slice (some ⟨g,0,none⟩) 5 5∧g < x.heap.size∧g≠c∧∀z,z < 5→∃t,x.cell? ⟨g,z,none⟩=some t∧avZ x c t
def awj (x:World) (c:Nat) (v:Value):Prop:=∃g z t,v= .pointer (some ⟨g,z,none⟩)∧g < x.heap.size∧g≠c∧x.cell? ⟨g,z,none⟩=some t∧avZ x c t
theorem av0 {x y:World} {c g i:Nat} (hk:Keeps c x y) (h1:g < x.heap.size) (h2:g≠c):y.cell? ⟨g,i,none⟩=x.cell? ⟨g,i,none⟩:=World.cell?_of_block (w:=x) (hk.block g h1 h2)
theorem avZ.keeps {x y:World} {c:Nat} {v:Value} (h:avZ x c v) (hk:Keeps c x y):avZ y c v:=by
 obtain⟨k,g,e,h0,h1,h2,h3⟩:=h;exact⟨k,g,e,h0,Nat.lt_of_lt_of_le h1 hk.size,h2,fun i hi=>(av0 hk h1 h2).trans (h3 i hi)⟩
theorem av1.keeps {x y:World} {c:Nat} {v:Value} {zs:List Int} (h:av1 x c v zs) (hk:Keeps c x y):av1 y c v zs:=by
 obtain⟨g,e,h1,h2,h3⟩:=h;exact⟨g,e,Nat.lt_of_lt_of_le h1 hk.size,h2,fun i hi=>(av0 hk h1 h2).trans (h3 i hi)⟩
theorem av7.keeps {x y:World} {c:Nat} {v:Value} (h:av7 x c v) (hk:Keeps c x y):av7 y c v:=by
 obtain⟨g,e,h1,h2,h3⟩:=h;exact⟨g,e,Nat.lt_of_lt_of_le h1 hk.size,h2,fun z hz=>(h3 z hz).imp fun t ht=>⟨(av0 hk h1 h2).trans ht.1,ht.2.keeps hk⟩⟩
theorem awj.keeps {x y:World} {c:Nat} {v:Value} (h:awj x c v) (hk:Keeps c x y):awj y c v:=by
 obtain⟨g,z,t,e,h1,h2,h3,h4⟩:=h;exact⟨g,z,t,e,Nat.lt_of_lt_of_le h1 hk.size,h2,(av0 hk h1 h2).trans h3,h4.keeps hk⟩
theorem av1.new {x:World} {c:Nat} (hc:c < x.heap.size) (zs:List Int):av1 (x.alloc (.cells (zs.map (Value.int .i64)).toArray 3)) c (.slice (some ⟨x.heap.size,0,none⟩) zs.length zs.length) zs:=
 ⟨_,rfl,by simp,by omega,fun i hi=>asq x zs _ i hi⟩
theorem avZ.new {x:World} {c:Nat} (hc:c < x.heap.size) (zs:List Int) (h:zs.length≤5):avZ (x.alloc (.cells (zs.map (Value.int .i64)).toArray 3)) c (.slice (some ⟨x.heap.size,0,none⟩) zs.length zs.length):=
 ⟨zs,_,rfl,h,by simp,by omega,fun i hi=>asq x zs _ i hi⟩
theorem av1.pick {x:World} {c:Nat} {v:Value} {zs:List Int} (h:av1 x c v zs) (hc:Cur x c) (hp:0 < zs.length) (hm:zs.length≤1000):Calls Tryz.prog 43 #[.pointer (some ⟨c,0,none⟩),v] x fun e w'=>∃z:Int,e= .returned (.int .i64 z)∧Cur w' c∧Keeps c x w':=by
 obtain⟨g,rfl,h1,h2,h3⟩:=h;refine(asn c g _ zs x hc h2 hp hm h3 h1).mono ?_;rintro e w' ⟨z,rfl,_,h4,h5⟩;exact⟨z,rfl,h4,h5⟩
theorem av7.new {x:World} {c:Nat} {t1 t2 t3 t4 t5:Value} (hc:c < x.heap.size) (h1:avZ x c t1) (h2:avZ x c t2) (h3:avZ x c t3) (h4:avZ x c t4) (h5:avZ x c t5):av7 (x.alloc (.cells #[t1,t2,t3,t4,t5] 24)) c (.slice (some ⟨x.heap.size,0,none⟩) 5 5):=by
 have hb:=heap_alloc_new x (.cells #[t1,t2,t3,t4,t5] 24);refine⟨_,rfl,by simp,by omega,fun z hz=>?_⟩;rw [cell_of_row _ _ _ _ _ _ hb];have:z=0∨z=1∨z=2∨z=3∨z=4:=by omega
 rcases this with rfl|rfl|rfl|rfl|rfl
 ·exact⟨_,rfl,h1.keeps (asv _)⟩
 ·exact⟨_,rfl,h2.keeps (asv _)⟩
 ·exact⟨_,rfl,h3.keeps (asv _)⟩
 ·exact⟨_,rfl,h4.keeps (asv _)⟩
 ·exact⟨_,rfl,h5.keeps (asv _)⟩
structure NnS (w:World) (c:Nat) (b1 b2 b4 b5 b6 b7 b8 b9 b10 b11 b13 b14 b15 b16 b17:Bool) (t9 t10 t12 t13 t14 t15 t16 t17 t18 t19 t21 t22 t23 t2 t3:Value) (x:World):Prop where
 cur:Cur x c
 bel:Below c w x
 v1:b1=true→av1 x c t9 [1,0,29,30,-1]
 v2:b2=true→awn t10
 v4:b4=true→av1 x c t12 [0,-1,1,5,30]
 v5:b5=true→awn t13
 v6:b6=true→avZ x c t14
 v7:b7=true→avZ x c t15
 v8:b8=true→avZ x c t16
 v9:b9=true→avZ x c t17
 v10:b10=true→avZ x c t18
 v11:b11=true→av7 x c t19
 v13:b13=true→awy t21
 v14:b14=true→awj x c t22
 v15:b15=true→avZ x c t23
 v16:b16=true→awn t2
 v17:b17=true→awn t3
theorem NnS.keeps {w x y:World} {c:Nat} {b1 b2 b4 b5 b6 b7 b8 b9 b10 b11 b13 b14 b15 b16 b17:Bool} {t9 t10 t12 t13 t14 t15 t16 t17 t18 t19 t21 t22 t23 t2 t3:Value} (h:NnS w c b1 b2 b4 b5 b6 b7 b8 b9 b10 b11 b13 b14 b15 b16 b17 t9 t10 t12 t13 t14 t15 t16 t17 t18 t19 t21 t22 t23 t2 t3 x) (hc:Cur y c) (hk:Keeps c x y):NnS w c b1 b2 b4 b5 b6 b7 b8 b9 b10 b11 b13 b14 b15 b16 b17 t9 t10 t12 t13 t14 t15 t16 t17 t18 t19 t21 t22 t23 t2 t3 y:=
 ⟨hc,h.bel.trans (hk.below (Nat.le_refl _) (Nat.le_of_lt h.cur.lt)),fun e=>(h.v1 e).keeps hk,h.v2,fun e=>(h.v4 e).keeps hk,h.v5,fun e=>(h.v6 e).keeps hk,fun e=>(h.v7 e).keeps hk,fun e=>(h.v8 e).keeps hk,fun e=>(h.v9 e).keeps hk,fun e=>(h.v10 e).keeps hk,fun e=>(h.v11 e).keeps hk,h.v13,fun e=>(h.v14 e).keeps hk,fun e=>(h.v15 e).keeps hk,h.v16,h.v17⟩
theorem NnS.new {w x:World} {c:Nat} {b1 b2 b4 b5 b6 b7 b8 b9 b10 b11 b13 b14 b15 b16 b17:Bool} {t9 t10 t12 t13 t14 t15 t16 t17 t18 t19 t21 t22 t23 t2 t3:Value} (h:NnS w c b1 b2 b4 b5 b6 b7 b8 b9 b10 b11 b13 b14 b15 b16 b17 t9 t10 t12 t13 t14 t15 t16 t17 t18 t19 t21 t22 t23 t2 t3 x) (o:Obj):NnS w c b1 b2 b4 b5 b6 b7 b8 b9 b10 b11 b13 b14 b15 b16 b17 t9 t10 t12 t13 t14 t15 t16 t17 t18 t19 t21 t22 t23 t2 t3 (x.alloc o):=h.keeps (asl h.cur _) (asv _)
def av2 (b1 b2 b4 b5 b6 b7 b8 b9 b10 b11 b13 b14 b15 b16 b17:Bool):Nat:=(!b1).toNat+(!b2).toNat+(!b4).toNat+(!b5).toNat+(!b6).toNat+(!b7).toNat+(!b8).toNat+(!b9).toNat+(!b10).toNat+(!b11).toNat+(!b13).toNat+(!b14).toNat+(!b15).toNat+(!b16).toNat+(!b17).toNat
def NnJ (w:World) (s q:Value) (c:Nat) (f:Nat) (L:Array Bool) (a:Act) (x:World):Prop:=
 ∃b1 b2 b4 b5 b6 b7 b8 b9 b10 b11 b13 b14 b15 b16 b17 t9 t10 t12 t13 t14 t15 t16 t17 t18 t19 t21 t22 t23 t2 t3,f=1+av2 b1 b2 b4 b5 b6 b7 b8 b9 b10 b11 b13 b14 b15 b16 b17∧L=#[true,b1,b2,true,b4,b5,b6,b7,b8,b9,b10,b11,true,b13,b14,b15,b16,b17,false]∧a={tmps:=#[s,undef,t2,t3,.slice none 0 0,q,s,q,q,t9,t10,q,t12,t13,t14,t15,t16,t17,t18,t19,q,t21,t22,t23],defers:=[]}∧NnS w c b1 b2 b4 b5 b6 b7 b8 b9 b10 b11 b13 b14 b15 b16 b17 t9 t10 t12 t13 t14 t15 t16 t17 t18 t19 t21 t22 t23 t2 t3 x
theorem awc (a:Option Addr) (len cap:Nat) (w:World) (hcode:asA w a len):Calls Tryz.prog 11 #[.slice a len cap] w fun e w'=>∃(id par:Int) (kids:List Int) (g:Nat),e= .returned (.tuple #[.int .i64 id,.int .i64 par,.slice (some ⟨g,0,none⟩) kids.length kids.length])∧kids.length≤5∧dK w' (some ⟨g,0,none⟩) kids∧Below w.heap.size w w':=by
 have HC:=hide hcode;clear hcode;go_enter Tryz.func11,Tryz.ntmps11
 go_wp2_with fail;refine(auh a len cap w HC.1 HC.2).mono ?_;rintro e w1 ⟨rfl,hc1,hb1⟩;have Wt:=hide hc1;have HB1:=hide hb1;clear hc1 hb1 HC;go_upto_region 2 with fail;refine wp_region_any (by kernel_rfl) ?_;show wpAny _ _ _ _ 19 (Array.replicate 19 false) _ _
 refine asS (fun Y hY=>?_);have HY:=hide (HB1.trans (hY.mono HB1.size));have HCY:=hide (Wt.keep_below hY);clear hY Wt HB1;generalize hcg:w.heap.size=c at *;have HCG:=hide hcg;clear hcg;refine au3 0 rfl (by kernel_rfl) (by kernel_rfl) (by kernel_rfl) (fun _ _ _ _ h=>h) _ (by rfl) (fun _=>rfl) ?_;refine au3 3 rfl (by kernel_rfl) (by kernel_rfl) (by kernel_rfl) (fun _ _ _ _ h=>h) _ (by rfl) (fun _=>rfl) ?_;refine au3 12 rfl (by kernel_rfl) (by kernel_rfl) (by kernel_rfl) (fun _ _ _ _ h=>h) _ (by rfl) (fun _=>rfl) ?_;refine awe (J:=NnJ w (.slice a len cap) (.pointer (some ⟨c,0,none⟩)) c) ?hs _ _ _ _ ?cl ⟨false,false,false,false,false,false,false,false,false,false,false,false,false,false,false,undef,undef,undef,undef,undef,undef,undef,undef,undef,undef,undef,undef,undef,.int .i64 0,.int .i64 0,rfl,rfl,rfl,⟨HCY,HY,by simp,by simp,by simp,by simp,by simp,by simp,by simp,by simp,by simp,by simp,by simp,by simp,by simp,by simp,by simp⟩⟩
 case cl=>
  intro i o ho hl;have hlt:i < 19:=(Array.getElem?_eq_some_iff.1 ho).1
  have hcase:i=0∨i=3∨i=12:=by
   apply Classical.byContradiction
   intro hn;have h18:i=1∨i=2∨i=4∨i=5∨i=6∨i=7∨i=8∨i=9∨i=10∨i=11∨i=13∨i=14∨i=15∨i=16∨i=17∨i=18:=by omega
   rcases h18 with rfl|rfl|rfl|rfl|rfl|rfl|rfl|rfl|rfl|rfl|rfl|rfl|rfl|rfl|rfl|rfl<;>cases (show false=true from hl)
  rcases hcase with rfl|rfl|rfl<;>(change some _=some o at ho;cases ho;intro e he;simp at he)
 clear HY HCY Y w1;rintro f L a1 x hCL ⟨b1,b2,b4,b5,b6,b7,b8,b9,b10,b11,b13,b14,b15,b16,b17,t9,t10,t12,t13,t14,t15,t16,t17,t18,t19,t21,t22,t23,t2,t3,rfl,rfl,rfl,hS⟩;have hcl:=hS.cur.lt;have HS:=hide hS;have iN:=hide hCL;clear hS hCL;by_cases hall:(b1&&b2&&b4&&b5&&b6&&b7&&b8&&b9&&b10&&b11&&b13&&b14&&b15&&b16&&b17)=true
 ·left
  simp only[Bool.and_eq_true] at hall;obtain⟨⟨⟨⟨⟨⟨⟨⟨⟨⟨⟨⟨⟨⟨rfl,rfl⟩,rfl⟩,rfl⟩,rfl⟩,rfl⟩,rfl⟩,rfl⟩,rfl⟩,rfl⟩,rfl⟩,rfl⟩,rfl⟩,rfl⟩,rfl⟩:=hall;obtain⟨kids,g,rfl,hk5,hgl,_,hat⟩:=HS.v15 rfl;obtain⟨z1,rfl⟩:=HS.v16 rfl;obtain⟨z2,rfl⟩:=HS.v17 rfl;have HB:=hide HS.bel
  have HAT:=hide (show dK x (some ⟨g,0,none⟩) kids from fun i hi=>⟨g,0,rfl,hgl,fun j hj=>by
   have e:j=0:=by omega
   subst e
   rw [show 0+(i*1+0)=i by omega,hat i hi]
   rfl⟩)
  clear HS iN hat hgl hcl;show wpAny _ _ _ _ 1 _ _ _
  refine au5 18 rfl (by kernel_rfl) (by rfl) ?_;go_simp;refine⟨by kernel_rfl,?_⟩;go_wp2_with fail;exact bodyPost_ret (v:= .tuple #[.int .i64 z1,.int .i64 z2,.slice (some ⟨g,0,none⟩) kids.length kids.length]) (by simp[results,Tryz.results11,go_sem]) rfl ⟨z1,z2,kids,g,rfl,hk5,HAT,by rw [ah HCG];exact HB⟩
 ·right
  refine⟨av2 b1 b2 b4 b5 b6 b7 b8 b9 b10 b11 b13 b14 b15 b16 b17,by omega,?_,?_⟩
  ·cases b1
   ·exact avl (j:=1) rfl rfl (by kernel_rfl)
   cases b4
   ·exact avl (j:=4) rfl rfl (by kernel_rfl)
   cases b6
   ·exact avl (j:=6) rfl rfl (by kernel_rfl)
   cases b7
   ·exact avl (j:=7) rfl rfl (by kernel_rfl)
   cases b8
   ·exact avl (j:=8) rfl rfl (by kernel_rfl)
   cases b9
   ·exact avl (j:=9) rfl rfl (by kernel_rfl)
   cases b10
   ·exact avl (j:=10) rfl rfl (by kernel_rfl)
   cases b2
   ·exact avl (j:=2) rfl rfl (by kernel_rfl)
   cases b5
   ·exact avl (j:=5) rfl rfl (by kernel_rfl)
   cases b11
   ·exact avl (j:=11) rfl rfl (by kernel_rfl)
   cases b13
   ·exact avl (j:=13) rfl rfl (by kernel_rfl)
   cases b14
   ·exact avl (j:=14) rfl rfl (by kernel_rfl)
   cases b15
   ·exact avl (j:=15) rfl rfl (by kernel_rfl)
   cases b16
   ·exact avl (j:=16) rfl rfl (by kernel_rfl)
   cases b17
   ·exact avl (j:=17) rfl rfl (by kernel_rfl)
   exact absurd rfl hall
  ·intro i hi;obtain⟨h1,o,ho,h2⟩:=mem_ready.1 hi;have hlt:i < 19:=(Array.getElem?_eq_some_iff.1 ho).1;have hcase:i=1∨i=2∨i=4∨i=5∨i=6∨i=7∨i=8∨i=9∨i=10∨i=11∨i=13∨i=14∨i=15∨i=16∨i=17∨i=18∨i=0∨i=3∨i=12:=by omega
   clear hi hlt;rcases hcase with rfl|rfl|rfl|rfl|rfl|rfl|rfl|rfl|rfl|rfl|rfl|rfl|rfl|rfl|rfl|rfl|rfl|rfl|rfl
   ·obtain rfl:b1=false:=h1;clear ho h2 hall;refine aup rfl (by rfl) ?_;go_simp;exact⟨true,b2,b4,b5,b6,b7,b8,b9,b10,b11,b13,b14,b15,b16,b17,_,t10,t12,t13,t14,t15,t16,t17,t18,t19,t21,t22,t23,t2,t3,by simp[av2];omega,rfl,rfl,{HS.new _ with v1:=fun _=>av1.new hcl [1,0,29,30,-1]}⟩
   ·obtain rfl:b2=false:=h1;change some _=some o at ho
    cases ho
    obtain rfl:b1=true:=h2 ⟨1,.data⟩ (by simp) rfl;clear h2 hall;have HP:=hide ((HS.v1 rfl).pick HS.cur (by simp) (by simp));refine aup rfl (by rfl) ?_;go_simp;refine HP.mono ?_;rintro e y ⟨z,rfl,hcy,hky⟩;exact⟨true,true,b4,b5,b6,b7,b8,b9,b10,b11,b13,b14,b15,b16,b17,_,_,t12,t13,t14,t15,t16,t17,t18,t19,t21,t22,t23,t2,t3,by simp[av2];omega,rfl,rfl,{HS.keeps hcy hky with v2:=fun _=>⟨z,rfl⟩}⟩
   ·obtain rfl:b4=false:=h1;clear ho h2 hall;refine aup rfl (by rfl) ?_;go_simp;exact⟨b1,b2,true,b5,b6,b7,b8,b9,b10,b11,b13,b14,b15,b16,b17,t9,t10,_,t13,t14,t15,t16,t17,t18,t19,t21,t22,t23,t2,t3,by simp[av2];omega,rfl,rfl,{HS.new _ with v4:=fun _=>av1.new hcl [0,-1,1,5,30]}⟩
   ·obtain rfl:b5=false:=h1;change some _=some o at ho
    cases ho
    obtain rfl:b4=true:=h2 ⟨4,.data⟩ (by simp) rfl;clear h2 hall;have HP:=hide ((HS.v4 rfl).pick HS.cur (by simp) (by simp));refine aup rfl (by rfl) ?_;go_simp;refine HP.mono ?_;rintro e y ⟨z,rfl,hcy,hky⟩;exact⟨b1,b2,true,true,b6,b7,b8,b9,b10,b11,b13,b14,b15,b16,b17,t9,t10,_,_,t14,t15,t16,t17,t18,t19,t21,t22,t23,t2,t3,by simp[av2];omega,rfl,rfl,{HS.keeps hcy hky with v5:=fun _=>⟨z,rfl⟩}⟩
   ·obtain rfl:b6=false:=h1;clear ho h2 hall;refine aup rfl (by rfl) ?_;go_simp;exact⟨b1,b2,b4,b5,true,b7,b8,b9,b10,b11,b13,b14,b15,b16,b17,t9,t10,t12,t13,_,t15,t16,t17,t18,t19,t21,t22,t23,t2,t3,by simp[av2];omega,rfl,rfl,{HS.new _ with v6:=fun _=>avZ.new hcl [2,3] (by simp)}⟩
   ·obtain rfl:b7=false:=h1;clear ho h2 hall;refine aup rfl (by rfl) ?_;go_simp;exact⟨b1,b2,b4,b5,b6,true,b8,b9,b10,b11,b13,b14,b15,b16,b17,t9,t10,t12,t13,t14,_,t16,t17,t18,t19,t21,t22,t23,t2,t3,by simp[av2];omega,rfl,rfl,{HS.new _ with v7:=fun _=>avZ.new hcl [] (by simp)}⟩
   ·obtain rfl:b8=false:=h1;clear ho h2 hall;refine aup rfl (by rfl) ?_;go_simp;exact⟨b1,b2,b4,b5,b6,b7,true,b9,b10,b11,b13,b14,b15,b16,b17,t9,t10,t12,t13,t14,t15,_,t17,t18,t19,t21,t22,t23,t2,t3,by simp[av2];omega,rfl,rfl,{HS.new _ with v8:=fun _=>avZ.new hcl [3,2] (by simp)}⟩
   ·obtain rfl:b9=false:=h1;clear ho h2 hall;refine aup rfl (by rfl) ?_;go_simp;exact⟨b1,b2,b4,b5,b6,b7,b8,true,b10,b11,b13,b14,b15,b16,b17,t9,t10,t12,t13,t14,t15,t16,_,t18,t19,t21,t22,t23,t2,t3,by simp[av2];omega,rfl,rfl,{HS.new _ with v9:=fun _=>avZ.new hcl [2] (by simp)}⟩
   ·obtain rfl:b10=false:=h1;clear ho h2 hall;refine aup rfl (by rfl) ?_;go_simp;exact⟨b1,b2,b4,b5,b6,b7,b8,b9,true,b11,b13,b14,b15,b16,b17,t9,t10,t12,t13,t14,t15,t16,t17,_,t19,t21,t22,t23,t2,t3,by simp[av2];omega,rfl,rfl,{HS.new _ with v10:=fun _=>avZ.new hcl [1] (by simp)}⟩
   ·obtain rfl:b11=false:=h1;change some _=some o at ho
    cases ho
    obtain rfl:b6=true:=h2 ⟨6,.data⟩ (by simp) rfl;obtain rfl:b7=true:=h2 ⟨7,.data⟩ (by simp) rfl;obtain rfl:b8=true:=h2 ⟨8,.data⟩ (by simp) rfl;obtain rfl:b9=true:=h2 ⟨9,.data⟩ (by simp) rfl;obtain rfl:b10=true:=h2 ⟨10,.data⟩ (by simp) rfl;clear h2 hall;have h6:=HS.v6 rfl;have h7:=HS.v7 rfl;have h8:=HS.v8 rfl;have h9:=HS.v9 rfl;have h10:=HS.v10 rfl;have HR:=hide (av7.new hcl h6 h7 h8 h9 h10);obtain⟨k6,g6,rfl,_⟩:=h6;obtain⟨k7,g7,rfl,_⟩:=h7;obtain⟨k8,g8,rfl,_⟩:=h8;obtain⟨k9,g9,rfl,_⟩:=h9;obtain⟨k10,g10,rfl,_⟩:=h10;refine aup rfl (by rfl) ?_;go_simp;exact⟨b1,b2,b4,b5,true,true,true,true,true,true,b13,b14,b15,b16,b17,t9,t10,t12,t13,_,_,_,_,_,_,t21,t22,t23,t2,t3,by simp[av2];omega,rfl,rfl,{HS.new _ with v11:=fun _=>HR}⟩
   ·obtain rfl:b13=false:=h1;clear ho h2 hall;refine aup rfl (by rfl) ?_;go_simp;refine(asj c 5 _ HS.cur (by omega) (by omega)).mono ?_;rintro e y ⟨z',rfl,hz0,hz5,hcy,hky⟩;obtain⟨z,rfl⟩:=Int.eq_ofNat_of_zero_le hz0;exact⟨b1,b2,b4,b5,b6,b7,b8,b9,b10,b11,true,b14,b15,b16,b17,t9,t10,t12,t13,t14,t15,t16,t17,t18,t19,_,t22,t23,t2,t3,by simp[av2];omega,rfl,rfl,{HS.keeps hcy hky with v13:=fun _=>⟨z,rfl,by omega⟩}⟩
   ·obtain rfl:b14=false:=h1;change some _=some o at ho
    cases ho
    obtain rfl:b11=true:=h2 ⟨11,.data⟩ (by simp) rfl;obtain rfl:b13=true:=h2 ⟨13,.data⟩ (by simp) rfl;clear h2 hall;obtain⟨g,rfl,hg1,hg2,hg3⟩:=HS.v11 rfl;obtain⟨z,rfl,hz⟩:=HS.v13 rfl;obtain⟨t,ht1,ht2⟩:=hg3 z hz;have hzi:(z:Int) < 5:=by omega
    have HQ:=hide (show awj x c (.pointer (some ⟨g,z,none⟩)) from⟨g,z,t,rfl,hg1,hg2,ht1,ht2⟩);refine aup rfl (by rfl) ?_;go_simp;exact⟨b1,b2,b4,b5,b6,b7,b8,b9,b10,true,true,true,b15,b16,b17,t9,t10,t12,t13,t14,t15,t16,t17,t18,_,_,_,t23,t2,t3,by simp[av2];omega,rfl,rfl,{HS with v14:=fun _=>HQ}⟩
   ·obtain rfl:b15=false:=h1;change some _=some o at ho
    cases ho
    obtain rfl:b14=true:=h2 ⟨14,.data⟩ (by simp) rfl;clear h2 hall;obtain⟨g,z,t,rfl,hg1,hg2,ht1,ht2⟩:=HS.v14 rfl;have HK:=hide ht2;obtain⟨kk,gk,rfl,_⟩:=ht2;refine aup rfl (by rfl) ?_;go_simp;exact⟨b1,b2,b4,b5,b6,b7,b8,b9,b10,b11,b13,true,true,b16,b17,t9,t10,t12,t13,t14,t15,t16,t17,t18,t19,t21,_,_,t2,t3,by simp[av2];omega,rfl,rfl,{HS with v15:=fun _=>HK}⟩
   ·obtain rfl:b16=false:=h1;change some _=some o at ho
    cases ho
    obtain rfl:b2=true:=h2 ⟨2,.data⟩ (by simp) rfl;clear h2 hall;refine aup rfl (by rfl) ?_;go_simp;exact⟨b1,true,b4,b5,b6,b7,b8,b9,b10,b11,b13,b14,b15,true,b17,t9,_,t12,t13,t14,t15,t16,t17,t18,t19,t21,t22,t23,_,t3,by simp[av2];omega,rfl,rfl,{HS with v16:=fun _=>HS.v2 rfl}⟩
   ·obtain rfl:b17=false:=h1;change some _=some o at ho
    cases ho
    obtain rfl:b5=true:=h2 ⟨5,.data⟩ (by simp) rfl;clear h2 hall;refine aup rfl (by rfl) ?_;go_simp;exact⟨b1,b2,b4,true,b6,b7,b8,b9,b10,b11,b13,b14,b15,b16,true,t9,t10,t12,_,t14,t15,t16,t17,t18,t19,t21,t22,t23,t2,_,by simp[av2];omega,rfl,rfl,{HS with v17:=fun _=>HS.v5 rfl}⟩
   ·change some _=some o at ho
    cases ho
    obtain rfl:b15=true:=h2 ⟨15,.data⟩ (by simp) rfl;obtain rfl:b17=true:=h2 ⟨17,.chain⟩ (by simp) rfl;obtain rfl:b14=true:=ah iN 15 _ rfl rfl ⟨14,.data⟩ (by simp) rfl;obtain rfl:b11=true:=ah iN 14 _ rfl rfl ⟨11,.data⟩ (by simp) rfl;obtain rfl:b13=true:=ah iN 14 _ rfl rfl ⟨13,.data⟩ (by simp) rfl;obtain rfl:b6=true:=ah iN 11 _ rfl rfl ⟨6,.data⟩ (by simp) rfl;obtain rfl:b7=true:=ah iN 11 _ rfl rfl ⟨7,.data⟩ (by simp) rfl;obtain rfl:b8=true:=ah iN 11 _ rfl rfl ⟨8,.data⟩ (by simp) rfl;obtain rfl:b9=true:=ah iN 11 _ rfl rfl ⟨9,.data⟩ (by simp) rfl;obtain rfl:b10=true:=ah iN 11 _ rfl rfl ⟨10,.data⟩ (by simp) rfl;obtain rfl:b5=true:=ah iN 17 _ rfl rfl ⟨5,.data⟩ (by simp) rfl;obtain rfl:b16=true:=ah iN 17 _ rfl rfl ⟨16,.chain⟩ (by simp) rfl;obtain rfl:b2=true:=ah iN 16 _ rfl rfl ⟨2,.data⟩ (by simp) rfl;obtain rfl:b4=true:=ah iN 5 _ rfl rfl ⟨4,.data⟩ (by simp) rfl;obtain rfl:b1=true:=ah iN 2 _ rfl rfl ⟨1,.data⟩ (by simp) rfl;exact absurd rfl hall
   all_goals cases (show true=false from h1)
end Go.Proofs.YtacgbldlonoaaaaGreatDoor
