/- Parts. -/
import Derived.Test.YtohmklmkjmlpjaaGreatDoorRk6
import Derived.Test.YtohmklmkjmlpjaaGreatDoorRk4
namespace Go.Proofs.YtohmklmkjmlpjaaGreatDoor
open Go.Proofs.Tryz
set_option maxHeartbeats 2000000
open Go.RowKit
open Mth
variable {w w' w1 W:World} {g n mb g' k b:Nat} {l:List Pu} {G:ByteArray->Pu} {a:Option Addr} {t:TypeId} {v a0 a1:Value} {A:Obj} {P:Program} {D:DataW Unit}
theorem dU (w:World) (o:Obj):Below w.heap.size w (w.alloc o):=(Below.refl _ _).alloc (Nat.le_refl _) _
theorem ET:(prog.info? 108).map (λi=>(i.zero,i.size,i.bytes))=some (some (.agg (iZ ByteArray.empty 0 0 0)),4,40):=Aab
theorem aG.news {x:Addr} (h:aG w (some x) l):∀j u,(GR.flat gB l)[j]?=some u->w.cell? (x.add j)=some u:=by
 intro j u hu
 have hj:j < l.length*4:=by
  have:=(List.getElem?_eq_some_iff.1 hu).1;rwa [GR.flat_length gB 4 aZ] at this
 obtain⟨g,off,e,hg,hc⟩:=h (j / 4) Aaa;have hf:=GR.flat_at gB 4 aZ l (j / 4) Aaa (j % 4) Aaa;have ej:j / 4*4+j % 4=j:=Aaa
 rw [ej] at hf;have h2:=hc (j % 4) Aaa;exact aiZ
theorem Ew (l:List Pu):∀u∈GR.flat gB l,u.oneCell'=true:=by
 intro u hu;unfold GR.flat at hu;rw [List.mem_flatMap] at hu;obtain⟨p,_,hp⟩:=hu;simp only[gB,List.mem_cons,List.not_mem_nil,or_false] at hp;rcases hp with rfl|rfl|rfl|rfl<;>rfl
set_option maxRecDepth 100000
abbrev rT (w:World) (g:Nat) (l:List Pu):Prop:=GR.Blk gB 108 w g l
theorem rT.four (h:rT w g l) (i:Nat) (hi:i < l.length):w.cell? ⟨g,i*4,none⟩=some (.string l[i].k)/\w.cell? ⟨g,i*4+1,none⟩=some (.int .i64 l[i].m)/\w.cell? ⟨g,i*4+2,none⟩=some (.int .i64 l[i].f)/\w.cell? ⟨g,i*4+3,none⟩=some (.int .i64 l[i].s):=
 ⟨by simpa using GR.Blk.cell h aZ i hi 0 Aaa,by simpa using GR.Blk.cell h aZ i hi 1 Aaa,by simpa using GR.Blk.cell h aZ i hi 2 Aaa,by simpa using GR.Blk.cell h aZ i hi 3 Aaa⟩
theorem Ku (h:rT w g l) (hb:aI w w'):rT w' g l:=by
 have hl:=GR.Blk.lt h;unfold rT GR.Blk at *;rw [hb.block g hl];exact h
theorem Cv (n:Nat) (hn:n<=2000000):∀W:World,(Instr.makeSlice 35 (.int .i64 (n:Int)) (.int .i64 (n:Int))).run prog W= .ok (.slice (some ⟨W.heap.size,0,none⟩) n n) (W.alloc (.cells (GR.flat gB (List.replicate n ⟨ByteArray.empty,0,0,0⟩)).toArray 108)):=by
 obtain⟨i0,hi,hz0,hz1,hz2⟩:=info_parts ET;intro W;have h:=run_make (P:=prog) W 35 108 i0 (.agg (iZ ByteArray.empty 0 0 0)) underlying35 hi hz0 .i64 .i64 (n:Int) (n:Int) Aaa Aaa Abc Aaa;rw [hz1] at h;have e:=GR.made_flat gB 4 aZ Aaa ⟨ByteArray.empty,0,0,0⟩ (Value.agg (iZ ByteArray.empty 0 0 0)).cells rfl n;exact En
theorem afN (p:Pu) (w:World):Calls prog 112 #[wU p] w (eO w (wU p)):=by
 obtain⟨k,m,f,s⟩:=p;go_in
 go_wp2_with fail;refine bodyPost_ret (v:= .agg (iZ k m f s)) (by simp[results,results112,go_sem]) rfl ⟨rfl,?_⟩;exact Vu
theorem aeW (p:Pu) (w:World):Calls prog 129 #[wU p,wU p] w (eO w (.bool true)):=by
 obtain⟨k,m,f,s⟩:=p;go_in
 exact Vt
theorem CF (l:List Pu) (z:Pu) (k:Nat) (hk:k < l.length):(l.take k++List.replicate (l.length - k) z).set k l[k]=l.take (k+1)++List.replicate (l.length - (k+1)) z:=by
 exact abj
theorem ady (a:Option Addr) (cap:Nat) (l:List Pu) (w:World) (hl:l.length<=1048576) (ha:aG w a l):
 Calls prog 60 #[.slice a l.length cap] w λe w'=>e= .returned (.slice (some ⟨w.heap.size,0,none⟩) l.length l.length)/\rT w' w.heap.size l/\aI w w':=by
 have hmk:=Cv l.length Aaa;have HA:=Hq ha;clear ha;go_in
 go_wp2_with fail;go_loopw [4] (λi wr=>∃k:Nat,k<=l.length/\i= .int .i64 k/\rT wr w.heap.size (l.take k++List.replicate (l.length - k) ⟨ByteArray.empty,0,0,0⟩)/\aI w wr) (λi _=>l.length - (intOf i).toNat)
 case atStart=>exact ajd
 case round=>
  open asS in exact El
theorem afK (p:Pu) (left:Int) (w:World) (h0:0<=left) (h1:left<=1048576) (hk:p.k.size<=maxLen):Calls prog 95 #[wU p,.int .i64 left] w λe w'=>e= .returned (.int .i64 (if (p.k.size:Int)<=left then left - p.k.size else -1))/\aI w w':=by
 obtain⟨k,m,f,s⟩:=p;dsimp only at hk ⊢;unfold maxLen at hk;by_cases hc:(k.size:Int)<=left
 .rw [if_pos hc];have hn:¬(left - (k.size:Int) < 0):=Aaa
  go_in
  exact Xd
 .rw [if_neg hc];have hn:left - (k.size:Int) < 0:=Aaa
  go_in
  exact Xd
theorem abC (a b:Option Addr) (ca cb:Nat) (l:List Pu) (w:World) (hl:l.length<=1048600) (ha:aG w a l) (hb:aG w b l):
 Calls prog 74 #[.slice a l.length ca,.slice b l.length cb] w (eO w (.bool true)):=by
 have HA:=Hq ha;have HB:=Hq hb;clear ha hb;go_in
 go_wp2_with fail;go_loopw [5] (λi wr=>∃k:Nat,k<=l.length/\i= .int .i64 k/\aI w wr) (λi _=>l.length - (intOf i).toNat)
 case atStart=>exact AZ
 case round=>
  obtain⟨k,hk,rfl,hbel⟩:=hrel;have cZ:=Hq hbel;clear hbel;by_cases hlt:k < l.length
  .obtain⟨g1,o1,rfl,hg1,s0,s1,s2,s3⟩:=aG.four (GR.At.below HA cZ) k hlt;obtain⟨g2,o2,rfl,hg2,t0,t1,t2,t3⟩:=aG.four (GR.At.below HB cZ) k hlt;generalize l[k]=pu at *;have UJ:=Hq (λw1=>aeW pu w1);obtain⟨pk,pm,pf,ps⟩:=pu;dsimp only at s0 s1 s2 s3 t0 t1 t2 t3;go_wp2_with fail
   go_region_held (λw'=>(w'.cell? ⟨g1,o1+k*4,none⟩=some (.string pk)/\w'.cell? ⟨g1,o1+k*4+1,none⟩=some (.int .i64 pm)/\w'.cell? ⟨g1,o1+k*4+2,none⟩=some (.int .i64 pf)/\w'.cell? ⟨g1,o1+k*4+3,none⟩=some (.int .i64 ps))/\w'.cell? ⟨g2,o2+k*4,none⟩=some (.string pk)/\w'.cell? ⟨g2,o2+k*4+1,none⟩=some (.int .i64 pm)/\w'.cell? ⟨g2,o2+k*4+2,none⟩=some (.int .i64 pf)/\w'.cell? ⟨g2,o2+k*4+3,none⟩=some (.int .i64 ps)) (go_keep)
    (first
     |(go_at_call 129;refine(UJ _).mono ?_;rintro e w5 ⟨rfl,hb5⟩;have hb6:aI wr w5:=⟨hb5.os,hb5.tape,hb5.output,hb5.size,hb5.block⟩;clear hb5;have fO:=Hq (cZ.trans (hb6.mono cZ.size));have y0:=(hb6.cell (p:=⟨g1,o1+k*4,none⟩) hg1).trans s0;have y1:=(hb6.cell (p:=⟨g1,o1+k*4+1,none⟩) hg1).trans s1;have y2:=(hb6.cell (p:=⟨g1,o1+k*4+2,none⟩) hg1).trans s2;have y3:=(hb6.cell (p:=⟨g1,o1+k*4+3,none⟩) hg1).trans s3;have z0:=(hb6.cell (p:=⟨g2,o2+k*4,none⟩) hg2).trans t0;have z1:=(hb6.cell (p:=⟨g2,o2+k*4+1,none⟩) hg2).trans t1;have z2:=(hb6.cell (p:=⟨g2,o2+k*4+2,none⟩) hg2).trans t2;have z3:=(hb6.cell (p:=⟨g2,o2+k*4+3,none⟩) hg2).trans t3;clear hb6))
   all_goals
    go_wp2_with fail
    go_roundw
    case rel=>exact⟨k+1,Aaa,Aah,fO⟩
    case measure=>simp[intOf];omega
  .exact Sk
theorem YR (a:Option Addr) (ca:Nat) (l:List Pu) (z0:Int) (w:World) (h0:0<=z0) (h1:z0<=1048576) (hl:l.length<=maxLen) (hks:∀p∈l,p.k.size<=maxLen) (ha:aG w a l):
 Calls prog 40 #[.slice a l.length ca,.int .i64 z0] w λe w'=>∃r:Int,e= .returned (.int .i64 r)/\aI w w'/\(r= -1\/0<=r/\r<=1048576/\l.length<=1048576/\∀p∈l,p.k.size<=1048576):=by
 have HA:=Hq ha;clear ha;unfold maxLen at hl;by_cases hbig:(l.length:Int)<=z0
 .have hn:¬(z0 - (l.length:Int) < 0):=Aaa
  go_in
  go_wp2_with fail;go_loopw [1,5] (λlf i wr=>∃(k:Nat) (z:Int),k<=l.length/\i= .int .i64 k/\lf= .int .i64 z/\0<=z/\z<=1048576/\(∀p∈l.take k,p.k.size<=1048576)/\aI w wr) (λ_ i _=>l.length - (intOf i).toNat)
  case atStart=>exact Xc
  case round=>
   open auj in exact Jf
 .have hn:z0 - (l.length:Int) < 0:=Aaa
  go_in
  exact Vx
namespace Fo
open Go.RowKit
theorem two_blocks {B:Obj} (hb:Below ((w.alloc A).alloc B).heap.size ((w.alloc A).alloc B) w1):
 w1.heap[w.heap.size]?=some A/\w1.heap[w.heap.size+1]?=some B/\w.heap.size+1 < w1.heap.size/\aI w w1:=by
 have hs:((w.alloc A).alloc B).heap.size=w.heap.size+1+1:=Aac
 have hz:=hb.size;refine⟨?_,?_,Aaa,(((Below.refl _ _).alloc (Nat.le_refl _) _).alloc Aac _).trans (hb.mono Aaa)⟩
 .rw [hb.block _ Aaa,Below.heap_alloc _ _ _ Aac];exact heap_alloc_new w A
 .rw [hb.block _ Aaa];have h:=heap_alloc_new (w.alloc A) B;rwa [show(w.alloc A).heap.size=w.heap.size+1 by simp] at h
theorem one_block (hb:Below (w.alloc A).heap.size (w.alloc A) w1):
 w1.heap[w.heap.size]?=some A/\w.heap.size < w1.heap.size/\aI w w1:=by
 have hs:(w.alloc A).heap.size=w.heap.size+1:=Aac
 have hz:=hb.size;refine⟨?_,Aaa,((Below.refl _ _).alloc (Nat.le_refl _) _).trans (hb.mono Aaa)⟩;rw [hb.block _ Aaa];exact heap_alloc_new w A
theorem blk_set {c:Nat} {cs:Array Value} (h:w.heap[c]?=some (.cells cs t (0,0))) (i:Nat) (v:Value):(w.setCell ⟨c,i,none⟩ v).heap[c]?=some (.cells (cs.setIfInBounds i v) t (0,0)):=by
 exact Vv
theorem four_set {a2 a3 b0 b1 b2 b3:Value} (h:w.heap[g]?=some (.cells #[a0,a1,a2,a3] t (0,0))):
 ((((w.setCell ⟨g,0,none⟩ b0).setCell ⟨g,1,none⟩ b1).setCell ⟨g,2,none⟩ b2).setCell ⟨g,3,none⟩ b3).heap[g]?=some (.cells #[b0,b1,b2,b3] t (0,0)):=
 blk_set (blk_set (blk_set (blk_set h 0 b0) 1 b1) 2 b2) 3 b3
theorem four_below {a:World} {B:Nat} {b0 b1 b2 b3:Value} (h:Below B a w) (hg:B<=g):
 Below B a ((((w.setCell ⟨g,0,none⟩ b0).setCell ⟨g,1,none⟩ b1).setCell ⟨g,2,none⟩ b2).setCell ⟨g,3,none⟩ b3):=
 (((h.setCell (p:=⟨g,0,none⟩) hg b0).setCell (p:=⟨g,1,none⟩) hg b1).setCell (p:=⟨g,2,none⟩) hg b2).setCell (p:=⟨g,3,none⟩) hg b3
theorem one_other {i:Nat} {o:Option Obj} (h:w.heap[g']?=o) (hne:g'≠g):(w.setCell ⟨g,i,none⟩ v).heap[g']?=o:=by
 rw [Below.heap_setCell _ _ _ _ hne,h]
theorem bodyPost_at {fn:Func} {Q:Ending->World->Prop} {x:Exit} {act:Act} (h:∀W',W'=W->bodyPost P fn Q x act W'):bodyPost P fn Q x act W:=h W rfl
theorem wp_at {c:Code} {Q:Exit->Act->World->Prop} {a:Act} (h:∀W',W'=W->Code.wp P c Q a W'):Code.wp P c Q a W:=h W rfl
theorem lt_of_blk {o:Obj} (h:w.heap[g]?=some o):g < w.heap.size:=by
 exact aaU
theorem setCell_size (w:World) (p:Addr) (v:Value):(w.setCell p v).heap.size=w.heap.size:=by
 unfold World.setCell;simp
end Fo
def wN (w:World) (a:Option Addr) (g:Nat) (l:List Pu):Prop:=∀i (hi:i < l.length),a=some ⟨g,0,none⟩/\g < w.heap.size/\∀j,j < 4->w.cell? ⟨g,i*4+j,none⟩=(gB l[i])[j]?/\w.frozen? ⟨g,i*4+j,none⟩=false
theorem wN.at (h:wN w a g l):aG w a l:=λi hi=>
 ⟨g,0,(h i hi).1,(h i hi).2.1,λj hj=>by rw [Nat.zero_add];exact((h i hi).2.2 j hj).1⟩
theorem wN.of_blk (h:rT w g l):wN w (some ⟨g,0,none⟩) g l:=λi hi=>
 ⟨rfl,GR.Blk.lt h,λj hj=>⟨GR.Blk.cell h aZ i hi j hj,GR.Blk.free h _⟩⟩
theorem wN.nil:wN w a g []:=λi hi=>by simp at hi
theorem wN.below (h:wN w a g l) (hb:aI w w'):wN w' a g l:=λi hi=>by
 obtain⟨e,hg,hc⟩:=h i hi;exact⟨e,Nat.lt_of_lt_of_le hg hb.size,λj hj=>⟨(hb.cell (p:=⟨g,i*4+j,none⟩) hg).trans (hc j hj).1,(hb.frozen (p:=⟨g,i*4+j,none⟩) hg).trans (hc j hj).2⟩⟩
theorem wN.keeps (h:wN w a g l) (hk:Keeps g' w w') (hne:l=[]\/g≠g'):wN w' a g l:=by
 rcases hne with rfl|hne
 .exact wN.nil
 .intro i hi;obtain⟨e,hg,hc⟩:=h i hi;exact aiL
theorem wN.four (h:wN w a g l) (i:Nat) (hi:i < l.length):a=some ⟨g,0,none⟩/\g < w.heap.size/\(w.cell? ⟨g,i*4,none⟩=some (.string l[i].k)/\w.cell? ⟨g,i*4+1,none⟩=some (.int .i64 l[i].m)/\w.cell? ⟨g,i*4+2,none⟩=some (.int .i64 l[i].f)/\w.cell? ⟨g,i*4+3,none⟩=some (.int .i64 l[i].s))/\w.frozen? ⟨g,i*4,none⟩=false/\w.frozen? ⟨g,i*4+1,none⟩=false/\w.frozen? ⟨g,i*4+2,none⟩=false/\w.frozen? ⟨g,i*4+3,none⟩=false:=by
 exact aio
theorem uL:∀(vs:List Value) (w:World) (o:Nat),k < o\/o+vs.length<=k->(GR.setW w g o vs).cell? ⟨g,k,none⟩=w.cell? ⟨g,k,none⟩:=by
 exact aix
theorem FI {g:Nat}:∀(vs:List Value) (w:World) (o:Nat),(∀j,j < vs.length->∃v,w.cell? ⟨g,o+j,none⟩=some v)->∀j,j < vs.length->(GR.setW w g o vs).cell? ⟨g,o+j,none⟩=vs[j]?:=by
 intro vs;induction vs with
 |nil=>intro w o _ j hj;simp at hj
 |cons v vs ih=>
  intro w o h j hj;cases j with
  |zero=>
   obtain⟨v0,hv0⟩:=h 0 Aac;rw [Nat.add_zero] at hv0 ⊢;refine(uL vs (w.setCell ⟨g,o,none⟩ v) (o+1) Aaa).trans ?_;rw [World.cell?_setCell_same _ _ _ hv0];rfl
  |succ j=>
   exact aBR
theorem QC:∀(vs:List Value) (w:World) (o:Nat),(GR.setW w g o vs).frozen? ⟨g,k,none⟩=w.frozen? ⟨g,k,none⟩:=by
 exact ai2
theorem YD:∀(vs:List Value) (w:World) (o:Nat),(GR.setW w g o vs).heap.size=w.heap.size:=by
 exact ai8
theorem wN.set (h:wN w a g l) (k:Nat) (x:Pu) (hk:k < l.length):wN (GR.setW w g (k*4) (gB x)) a g (l.set k x):=λi hi=>by
 have hi':i < l.length:=Aap
 obtain⟨e,hg,hc⟩:=h i hi';refine⟨e,by rw [YD];exact hg,λj hj=>⟨?_,by rw [QC];exact(hc j hj).2⟩⟩;by_cases hik:i=k
 .subst hik
  rw [FI (gB x) w (i*4) (λj' hj'=>by
   have hj4:j' < 4:=by rw [aZ] at hj';exact hj'
   have h1:=(hc j' hj4).1
   rw [List.getElem?_eq_getElem (by rw [aZ];exact hj4)] at h1
   exact⟨_,h1⟩) j (by rw [aZ];exact hj)]
  simp
 .rw [uL (gB x) w (k*4) (by rw [aZ];omega),(hc j hj).1,List.getElem_set_ne Aaa]
open Go.RowKit Go.Maps
namespace Mth
def nothing (p:Pu):Bool:=p.m == 0&&p.f == 0&&p.s == 0
theorem Qd (p:Pu):nothing p=true↔p.m=0/\p.f=0/\p.s=0:=by unfold nothing;simp[and_assoc]
def upd (G:ByteArray->Pu) (p:Pu):ByteArray->Pu:=λk=>if k=p.k then p else G k
end Mth
def LZ:Value->Option (DataW Unit×List MemPlace)
 | .agg ⟨[.string k,.int .i64 m,.int .i64 f,.int .i64 s]⟩=>some (.agg [.lit (.string k.data.toList),.lit (.int .i64 m),.lit (.int .i64 f),.lit (.int .i64 s)],[])
 |_=>none
def zX (p:Pu):DataW Unit:= .agg [.lit (.string p.k.data.toList),.lit (.int .i64 p.m),.lit (.int .i64 p.f),.lit (.int .i64 p.s)]
theorem JI (p:Pu):LZ (wU p)=some (zX p,[]):=rfl
theorem Fw {p:Pu} {ps:List MemPlace} (h:LZ v=some (zX p,ps)):v=wU p:=by
 unfold LZ at h;split at h
 .rename_i k m f s
  obtain⟨pk,pm,pf,ps⟩:=p;simp only[zX,Option.some.injEq,Prod.mk.injEq,DataW.agg.injEq,List.cons.injEq,DataW.lit.injEq,Lit.string.injEq,Lit.int.injEq,true_and,and_true] at h;obtain⟨⟨h1,h2,h3,h4⟩,_⟩:=h;subst h2 h3 h4;have e:k=pk:=ByteArray.ext (Array.toList_inj.1 h1);rw [e]
 .cases h
abbrev klit (k:ByteArray):Lit:= .string k.data.toList
theorem DU {a b:ByteArray} (h:a≠b):klit a≠klit b:=λe=>h (by
 injection e with e
 exact ByteArray.ext (Array.toList_inj.1 e))
theorem TH:Keyed Tryz.prog 9:=string_keyed Tryz.underlying9
theorem acA (s:ByteArray) (hs:s.size<=maxLen):keyOf Tryz.prog 9 (.string s)=some (klit s):=Go.WideMaps.keyOf_string_mk Tryz.underlying9 hs
theorem ams (w:World):(zeroValue 108).run Tryz.prog w= .ok (wU ⟨ByteArray.empty,0,0,0⟩) w:=Aab
def Agr (D:DataW Unit) (G:ByteArray->Pu):Prop:=∀k,(G k).k=k/\Maps.has D (klit k)= !nothing (G k)/\(nothing (G k)=false->∀z,D.atKey (klit k) z=zX (G k))
def iK (w:World) (mb n:Nat) (G:ByteArray->Pu):Prop:=∃D,w.ownsMap Tryz.prog 9 LZ mb n D/\Agr D G
theorem Agr.empty:Agr (.map []) (λk=>⟨k,0,0,0⟩):=λk=>⟨rfl,rfl,λh=>Aau⟩
theorem Agr.put (h:Agr D G) (hD:Maps.IsMap D) (p:Pu) (hp:nothing p=false):Agr (D.put (klit p.k) (zX p)) (upd G p):=by
 intro k;unfold upd;by_cases e:k=p.k
 .rw [if_pos e,e];exact⟨rfl,by rw [has_put_same hD (show WideAt.IsKeyLit (klit p.k) from trivial),hp];rfl,λ_ z=>atKey_put_same hD (show WideAt.IsKeyLit (klit p.k) from trivial) _ z⟩
 .rw [if_neg e];obtain⟨h1,h2,h3⟩:=h k;exact⟨h1,by rw [has_put_other (DU e),h2],λhn z=>by rw [atKey_put_other (DU e)];exact h3 hn z⟩
theorem Agr.del (h:Agr D G) (p:Pu) (hp:nothing p=true):Agr (D.del (klit p.k)) (upd G p):=by
 intro k;unfold upd;by_cases e:k=p.k
 .rw [if_pos e,e];exact⟨rfl,by rw [has_del_same,hp];rfl,λhn=>by rw [hp] at hn;cases hn⟩
 .rw [if_neg e];obtain⟨h1,h2,h3⟩:=h k;exact⟨h1,by rw [has_del_other (DU e),h2],λhn z=>by rw [atKey_del_other (DU e)];exact h3 hn z⟩
theorem iK.made (w:World):iK (w.alloc (.map #[] 0)) w.heap.size 0 (λk=>⟨k,0,0,0⟩):=⟨_,World.ownsMap_made w _ _ _,Agr.empty⟩
theorem iK.lt (h:iK w mb n G):mb < w.heap.size:=h.choose_spec.1.lt
theorem iK.kept (h:iK w mb n G) (hb:w'.heap[mb]?=w.heap[mb]?):iK w' mb n G:=by
 exact ajT
theorem iK.look (h:iK w mb n G) (k:ByteArray) (hk:k.size<=maxLen):
 (Instr.lookup 349 (.map (some mb)) (.string k) true).run Tryz.prog w= .ok (.tuple #[wU (if nothing (G k) then⟨ByteArray.empty,0,0,0⟩ else G k),.bool (!nothing (G k))]) w:=by
 obtain⟨D,hown,ha⟩:=h;obtain⟨v,ps,hrun,hv⟩:=hown.look_ok TH Tryz.underlying349 (ams w) (JI _) (acA k hk);obtain⟨_,h2,h3⟩:=ha k;rw [hrun,h2];cases hn:nothing (G k)
 .rw [h3 hn] at hv;rw [Fw hv];rfl
 .rw [hn] at h2;rw [atKey_of_not_has h2] at hv;rw [Fw hv];rfl
theorem nY (h:w.mapTurned w' b):_root_.Go.Proofs.YtohmklmkjmlpjaaGreatDoor.Keeps b w w':=by
 have g:=h.grown;exact⟨g.os,g.tape,g.output,g.size,λk hk hne=>g.block k hk (λe=>hne (Option.some.inj e))⟩
theorem iK.store (h:iK w mb n G) (p:Pu) (hk:p.k.size<=maxLen) (hn:n < maxLen) (hp:nothing p=false):
 ∃w',(Instr.mapUpdate 349 (.map (some mb)) (.string p.k) (wU p)).run Tryz.prog w= .ok () w'/\iK w' mb (n+1) (upd G p)/\Keeps mb w w':=by
 obtain⟨D,hown,ha⟩:=h;obtain⟨w',hrun,h1,h2⟩:=hown.store TH Tryz.underlying349 hn (acA p.k hk) (JI p);exact⟨w',hrun,⟨_,h1,ha.put hown.isMap p hp⟩,nY h2⟩
theorem iK.drop (h:iK w mb n G) (p:Pu) (hk:p.k.size<=maxLen) (hp:nothing p=true) (ty:TypeId):
 ∃w',(Builtin.delete_ #[349,9] ty #[.map (some mb),.string p.k]).run Tryz.prog w= .ok (.tuple #[]) w'/\iK w' mb n (upd G p)/\Keeps mb w w':=by
 obtain⟨D,hown,ha⟩:=h;obtain⟨w',hrun,h1,h2⟩:=hown.drop TH Tryz.underlying349 (acA p.k hk) ty;exact⟨w',hrun,⟨_,h1,ha.del p hp⟩,nY h2⟩
theorem Px (p:Pu) (w:World):Calls Tryz.prog 309 #[wU p] w (eO w (.bool (nothing p))):=by
 obtain⟨pk,pm,pf,ps⟩:=p;go_in
 go_wp2
 all_goals
  go_ret
  exact⟨by simp[nothing, *],dU w _⟩
theorem mD (h:w.heap[g]?=some (.cells #[a0,a1] t (0,0))):
 (w.cell? ⟨g,0,none⟩=some a0/\w.cell? ⟨g,1,none⟩=some a1)/\(w.frozen? ⟨g,0,none⟩=false/\w.frozen? ⟨g,1,none⟩=false):=by
 have hc:∀i,w.cell? ⟨g,i,none⟩=#[a0,a1][i]?:=λi=>cell_of_row w g i _ t (0,0) h
 have hf:∀i,w.frozen? ⟨g,i,none⟩=false:=λi=>by unfold World.frozen?;rw [h];simp
 exact⟨⟨hc 0,hc 1⟩,hf 0,hf 1⟩
theorem iK.mono {n':Nat} (h:iK w mb n G) (hn:n<=n'):iK w mb n' G:=by
 obtain⟨D,h1,h2⟩:=h;exact⟨D,h1.mono hn,h2⟩
theorem VN (mp mb n:Nat) (v:Value) (G:ByteArray->Pu) (p:Pu) (w:World) (hk:p.k.size<=1048576) (hn:n < maxLen) (hm:w.heap[mp]?=some (.cells #[v,.map (some mb)] 352 (0,0))) (hM:iK w mb n G):
 Calls Tryz.prog 301 #[.pointer (some ⟨mp,0,none⟩),wU p] w λe w'=>e= .returned (.tuple #[])/\iK w' mb (n+1) (upd G p)/\Keeps mb w w':=by
 have HN:=Hq (λw1=>Px p w1);have HM:=Hq hm;have HI:=Hq hM;have hkm:p.k.size<=maxLen:=Aai
 have hmp:=Fo.lt_of_blk hm;have hmb:=hM.lt;cases hno:nothing p
 .obtain⟨pk,pm,pf,ps⟩:=p;have HST:=Hq (λw1 h=>iK.store (w:=w1) (mb:=mb) (n:=n) (G:=G) h ⟨pk,pm,pf,ps⟩ hkm hn hno);open ato in exact agm
 .obtain⟨pk,pm,pf,ps⟩:=p;have HST:=Hq (λw1 ty h=>iK.drop (w:=w1) (mb:=mb) (n:=n) (G:=G) h ⟨pk,pm,pf,ps⟩ hkm hno ty);open atn in exact agm
theorem Le (mp mb n:Nat) (v:Value) (G:ByteArray->Pu) (k:ByteArray) (w:World) (hk:k.size<=1048576) (hm:w.heap[mp]?=some (.cells #[v,.map (some mb)] 352 (0,0))) (hM:iK w mb n G):
 Calls Tryz.prog 302 #[.pointer (some ⟨mp,0,none⟩),.string k] w (eO w (wU (G k))):=by
 have hmp:=Fo.lt_of_blk hm;have hmb:=hM.lt;obtain⟨⟨m0,m1⟩,_⟩:=mD hm;have hGk:=(hM.choose_spec.2 k).1;have hrun:=(iK.kept (w':=w.alloc (.cells (iZ ⟨#[]⟩ 0 0 0) 108)) hM (by rw [Below.heap_alloc _ _ _ hmb])).look k Aai;clear hm hM;cases hno:nothing (G k)
 .rw [hno] at hrun;generalize G k=p at *;obtain⟨pk,pm,pf,ps⟩:=p;dsimp only at hGk;subst hGk;simp only[Bool.not_false,if_neg Bool.false_ne_true] at hrun;go_in
  go_wp2_with fail;exact bodyPost_ret (v:= .agg (iZ pk pm pf ps)) (by simp[results,Tryz.results302,go_sem]) rfl ⟨rfl,((Below.refl _ _).alloc (Nat.le_refl _) _).alloc Aac _⟩
 .have hG0:G k=⟨k,0,0,0⟩:=by
   obtain⟨h1,h2,h3⟩:=(Qd _).1 hno;generalize G k=p at *;obtain⟨pk,pm,pf,ps⟩:=p;dsimp only at hGk h1 h2 h3;rw [hGk,h1,h2,h3]
  rw [hno] at hrun;rw [hG0];clear hno hG0 hGk;simp only[Bool.not_true,if_pos] at hrun;go_in
  go_wp2_with fail;exact bodyPost_ret (v:= .agg (iZ k 0 0 0)) (by simp[results,Tryz.results302,go_sem]) rfl ⟨rfl,((Below.refl _ _).alloc (Nat.le_refl _) _).alloc Aac _⟩
theorem LA (a:Option Addr) (cap:Nat) (l:List Pu) (w:World) (hl:l.length<=1048600) (hn:a=none->l.length=0/\cap=0) (ha:aG w a l):
 Calls Tryz.prog 80 #[.slice a l.length cap] w λe w'=>∃v,e= .returned v/\v≠ .slice none 0 0/\w'.ownsRow w.heap.size 108 4 v l.length (GR.flat gB l)/\aI w w':=by
 obtain⟨i0,hi,hz0,hz1,hz2⟩:=info_parts ET;open ayO in exact ahS
theorem own_lower {b':Nat} {e:TypeId} {sz:Nat} {xs:List Value} (h:w.ownsRow b e sz v n xs) (hb:b'<=b):w.ownsRow b' e sz v n xs:=by
 exact ajj
theorem P7 (a:Option Addr) (cap:Nat) (l:List Pu) (p:Pu) (n:Int) (w:World) (hl:l.length<=1048600) (hk:∀p∈l,p.k.size<=maxLen) (hn:a=none->l.length=0/\cap=0) (ha:aG w a l) (hno:jh l=false\/¬(1<=n/\n<=1000000000)):
 Calls Tryz.prog 182 #[.slice a l.length cap,wU p,.int .i64 n] w λe w'=>∃v,e= .returned (.tuple #[v,.bool false])/\v≠ .slice none 0 0/\w'.ownsRow w.heap.size 108 4 v l.length (GR.flat gB l)/\aI w w':=by
 have nW:=Hq (λw1 (h:aG w1 a l)=>oJ a cap l w1 hl hk h);have Ng:=Hq (λw1 (h:aG w1 a l)=>LA a cap l w1 hl hn h);have HA:=Hq ha;clear ha hk hn;obtain⟨pk,pm,pf,ps⟩:=p;go_in
 go_wp2_with fail;refine(nW _ (GR.At.below HA (dU w _))).mono ?_;rintro e w1 ⟨rfl,hb1⟩;have HB1:=Hq ((dU w _).trans (hb1.mono (dU w _).size));clear hb1;cases hok:jh l with
 |false=>
  exact aBK
 |true=>
  have hn2:decide (xM n 1 1000000000)=false:=decide_eq_false (by rcases hno with h|h;(rw [hok] at h;cases h);exact h);go_wp2_with fail;refine(TI _ _ _ _).mono ?_;rintro e w3 ⟨rfl,rfl⟩;rw [hn2];exact aBK
theorem adE (f:Pu->Bool):∀(l:List Pu) (k:Nat),k<=l.length->(∀q∈l.take k,f q=true)->(∀h:k < l.length,f l[k]=false)->l.takeWhile f=l.take k/\l.dropWhile f=l.drop k:=by
 intro l;induction l with
 |nil=>intro k hk _ _;simp
 |cons x r ih=>
  intro k hk h1 h2;cases k with
  |zero=>
   have hx:f x=false:=h2 Aac;simp[hx]
  |succ k=>
   have hx:f x=true:=h1 x Aac;obtain⟨g1,g2⟩:=ih k Acj (λq hq=>h1 q (by simp[hq])) (λh=>h2 Abi);simp[hx,g1,g2]
end Go.Proofs.YtohmklmkjmlpjaaGreatDoor
