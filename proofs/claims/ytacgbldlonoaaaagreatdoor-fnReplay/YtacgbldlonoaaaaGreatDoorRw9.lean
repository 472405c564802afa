/- Parts. -/
import Derived.Test.YtacgbldlonoaaaaGreatDoorRw6
import Derived.Test.YtacgbldlonoaaaaGreatDoorRw4
namespace Go.Proofs.YtacgbldlonoaaaaGreatDoor
open Go.Proofs.Tryz
set_option maxHeartbeats 2000000
open Go.RowKit
open Mth
theorem dU (w:World) (o:Obj):Below w.heap.size w (w.alloc o):=(Below.refl _ _).alloc (Nat.le_refl _) _
theorem Cm:(prog.info? 143).map (λi=>(i.zero,i.size,i.bytes))=some (some (.agg (iM ByteArray.empty 0 0 0)),4,40):=Aab
theorem aI.news {w:World} {x:Addr} {l:List Pu} (h:aI w (some x) l):∀j u,(GR.flat fH l)[j]?=some u->w.cell? (x.add j)=some u:=by
 intro j u hu
 have hj:j < l.length*4:=by
  have:=(List.getElem?_eq_some_iff.1 hu).1;rwa [GR.flat_length fH 4 aX] at this
 obtain⟨g,off,e,hg,hc⟩:=h (j / 4) Aaa;have hf:=GR.flat_at fH 4 aX l (j / 4) Aaa (j % 4) Aaa;have ej:j / 4*4+j % 4=j:=Aaa
 rw [ej] at hf;have h2:=hc (j % 4) Aaa;exact ag9
theorem zF (l:List Pu):∀u∈GR.flat fH l,u.oneCell'=true:=by
 intro u hu;unfold GR.flat at hu;rw [List.mem_flatMap] at hu;obtain⟨p,_,hp⟩:=hu;simp only[fH,List.mem_cons,List.not_mem_nil,or_false] at hp;rcases hp with rfl|rfl|rfl|rfl<;>rfl
abbrev wD (w:World) (g:Nat) (l:List Pu):Prop:=GR.Blk fH 143 w g l
theorem wD.four {w:World} {g:Nat} {l:List Pu} (h:wD w g l) (i:Nat) (hi:i < l.length):w.cell? ⟨g,i*4,none⟩=some (.string l[i].k)/\w.cell? ⟨g,i*4+1,none⟩=some (.int .i64 l[i].m)/\w.cell? ⟨g,i*4+2,none⟩=some (.int .i64 l[i].f)/\w.cell? ⟨g,i*4+3,none⟩=some (.int .i64 l[i].s):=
 ⟨by simpa using GR.Blk.cell h aX i hi 0 Aaa,by simpa using GR.Blk.cell h aX i hi 1 Aaa,by simpa using GR.Blk.cell h aX i hi 2 Aaa,by simpa using GR.Blk.cell h aX i hi 3 Aaa⟩
theorem Vq {w w':World} {g:Nat} {l:List Pu} (h:wD w g l) (hb:aY w w'):wD w' g l:=by
 have hl:=GR.Blk.lt h;unfold wD GR.Blk at *;rw [hb.block g hl];exact h
theorem Qd (n:Nat) (hn:n<=2000000):∀W:World,(Instr.makeSlice 25 (.int .i64 (n:Int)) (.int .i64 (n:Int))).run prog W= .ok (.slice (some ⟨W.heap.size,0,none⟩) n n) (W.alloc (.cells (GR.flat fH (List.replicate n ⟨ByteArray.empty,0,0,0⟩)).toArray 143)):=by
 obtain⟨i0,hi,hz0,hz1,hz2⟩:=info_parts Cm;intro W;have h:=run_make (P:=prog) W 25 143 i0 (.agg (iM ByteArray.empty 0 0 0)) underlying25 hi hz0 .i64 .i64 (n:Int) (n:Int) Aaa Aaa (by rw [hz2];omega) Aaa;rw [hz1] at h;have e:=GR.made_flat fH 4 aX Aaa ⟨ByteArray.empty,0,0,0⟩ (Value.agg (iM ByteArray.empty 0 0 0)).cells rfl n;simp only[Int.toNat_natCast] at h;rw [e] at h;exact h
theorem Q9 (l:List Pu) (z:Pu) (k:Nat) (hk:k < l.length):(l.take k++List.replicate (l.length - k) z).set k l[k]=l.take (k+1)++List.replicate (l.length - (k+1)) z:=by
 have hlen:(l.take k).length=k:=Aaf
 rw [List.set_append_right _ _ Aaa,hlen,Nat.sub_self];have e:l.length - k=(l.length - (k+1))+1:=Aaa
 rw [e,List.replicate_succ,List.take_succ_eq_append_getElem hk,List.append_assoc];rfl
namespace GR
open Go.RowKit
variable {α:Type} {enc:α->List Value} {sz:Nat}
theorem At.news {w:World} {x:Addr} {l:List α} (hs:∀y,(enc y).length=sz) (hz:0 < sz) (h:At enc sz w (some x) l):∀j u,(flat enc l)[j]?=some u->w.cell? (x.add j)=some u:=by
 intro j u hu
 have hj:j < l.length*sz:=by
  have:=(List.getElem?_eq_some_iff.1 hu).1;rwa [flat_length enc sz hs] at this
 have hq:j / sz < l.length:=Nat.div_lt_of_lt_mul (by rw [Nat.mul_comm];exact hj);have hr:j % sz < sz:=Nat.mod_lt _ hz;obtain⟨g,off,e,hg,hc⟩:=h (j / sz) hq;have hf:=flat_at enc sz hs l (j / sz) hq (j % sz) hr;have ej:j / sz*sz+j % sz=j:=Nat.div_add_mod' j sz;rw [ej] at hf;have h2:=hc (j % sz) hr;exact ag9
theorem flat_oneCell (h1:∀y,∀u∈enc y,u.oneCell'=true) (l:List α):∀u∈flat enc l,u.oneCell'=true:=by
 intro u hu;unfold flat at hu;rw [List.mem_flatMap] at hu;obtain⟨p,_,hp⟩:=hu;exact h1 p u hp
theorem own_below {w w':World} {B:Nat} {e:TypeId} {sz:Nat} {v:Value} {n:Nat} {xs:List Value} (h:w.ownsRow B e sz v n xs) (hb:aY w w'):w'.ownsRow B e sz v n xs:=
 h.kept (row:=none) ⟨hb.os,hb.tape,hb.output,hb.size,λk hk _=>hb.block k hk⟩ (by cases v.ownBlock with|none=>exact .inl rfl|some k=>exact .inr (by simp))
theorem own_lower {w:World} {b b':Nat} {e:TypeId} {sz:Nat} {v:Value} {n:Nat} {xs:List Value} (h:w.ownsRow b e sz v n xs) (hb:b'<=b):w.ownsRow b' e sz v n xs:=by
 exact ahm
theorem below_append {w wr w1:World} {B:Nat} {e:TypeId} {sz:Nat} {v:Value} {n:Nat} {xs:List Value} {o:Obj} (hb:Below B w wr) (hB:B<=wr.heap.size) (hown:wr.ownsRow B e sz v n xs) (hg:(wr.alloc o).grownBy w1 v.ownBlock):Below B w w1:=
 (hb.alloc hB o).grown hg Aaf (λk hk=>(hown.lt k hk).1)
theorem none_nil {w:World} {l:List α} (h:At enc sz w none l):l=[]:=by
 cases l with
 |nil=>rfl
 |cons y l=>
  obtain⟨g,off,e,_⟩:=h 0 Aac
  cases e
end GR
theorem aA {w:World} {g:Nat} {o:Obj} (h:w.heap[g]?=some o):g < w.heap.size:=by
 exact ajb
structure aC (F:List Nat) (w w':World):Prop where
 os:w'.os=w.os
 tape:w'.tape=w.tape
 output:w'.output=w.output
 size:w.heap.size<=w'.heap.size
 block:∀k,k < w.heap.size->k∉F->w'.heap[k]?=w.heap[k]?
theorem aC.refl (F:List Nat) (w:World):aC F w w:=⟨rfl,rfl,rfl,Nat.le_refl _,λ_ _ _=>rfl⟩
theorem aC.trans {F:List Nat} {a b c:World} (h:aC F a b) (k:aC F b c):aC F a c:=
 ⟨k.os.trans h.os,k.tape.trans h.tape,k.output.trans h.output,Nat.le_trans h.size k.size,λi hi hg=>(k.block i (Nat.lt_of_lt_of_le hi h.size) hg).trans (h.block i hi hg)⟩
theorem aC.mono {F F':List Nat} {a b:World} (h:aC F a b) (hs:∀x∈F,x∈F'):aC F' a b:=
 ⟨h.os,h.tape,h.output,h.size,λi hi hg=>h.block i hi (λhx=>hg (hs i hx))⟩
theorem aC.of_below {F:List Nat} {w w':World} (h:aY w w'):aC F w w':=⟨h.os,h.tape,h.output,h.size,λk hk _=>h.block k hk⟩
theorem aC.set {g i:Nat} {w:World} (v:Value):aC [g] w (w.setCell ⟨g,i,none⟩ v):=
 ⟨rfl,rfl,rfl,Aas,λk _ hg=>Below.heap_setCell _ _ _ _ (by simpa using hg)⟩
theorem aC.below {F:List Nat} {B:Nat} {w w':World} (h:aC F w w') (hB:∀x∈F,B<=x) (hs:B<=w.heap.size):Below B w w':=
 ⟨h.os,h.tape,h.output,h.size,λk hk=>h.block k Aaa (λhx=>by have:=hB k hx;omega)⟩
theorem aC.obj {F:List Nat} {w w':World} {g:Nat} {o:Obj} (hk:aC F w w') (h:w.heap[g]?=some o) (hg:g∉F):w'.heap[g]?=some o:=by
 rw [hk.block g (aA h) hg];exact h
def fp {α:Type} (g:Nat) (l:List α):List Nat:=if l.isEmpty then[] else[g]
theorem dK {α:Type} {g:Nat} {l:List α} (h:0 < l.length):g∈fp g l:=by
 unfold fp;cases l with
 |nil=>simp at h
 |cons x l=>simp
theorem gV {α:Type} {g x:Nat} {l:List α} (h:x∈fp g l):x=g/\0 < l.length:=by
 unfold fp at h;cases l with
 |nil=>simp at h
 |cons y l=>simpa using h
theorem abe {α:Type} (g:Nat) (l:List α):(fp g l).Nodup:=by unfold fp;split<;>simp
namespace GR
variable {α:Type}
def W (enc:α->List Value) (sz:Nat) (w:World) (a:Option Addr) (g:Nat) (l:List α):Prop:=∀i (hi:i < l.length),a=some ⟨g,0,none⟩/\g < w.heap.size/\∀j,j < sz->w.cell? ⟨g,i*sz+j,none⟩=(enc l[i])[j]?/\w.frozen? ⟨g,i*sz+j,none⟩=false
variable {enc:α->List Value} {sz:Nat}
theorem W.at {w:World} {a:Option Addr} {g:Nat} {l:List α} (h:W enc sz w a g l):At enc sz w a l:=λi hi=>
 ⟨g,0,(h i hi).1,(h i hi).2.1,λj hj=>by rw [Nat.zero_add];exact((h i hi).2.2 j hj).1⟩
theorem W.of_blk {w:World} {t:TypeId} {g:Nat} {l:List α} (hs:∀x,(enc x).length=sz) (h:Blk enc t w g l):W enc sz w (some ⟨g,0,none⟩) g l:=λi hi=>
 ⟨rfl,Blk.lt h,λj hj=>⟨Blk.cell h hs i hi j hj,Blk.free h _⟩⟩
theorem W.nil {w:World} {a:Option Addr} {g:Nat}:W enc sz w a g []:=λi hi=>by simp at hi
theorem W.keeps {F:List Nat} {w w':World} {a:Option Addr} {g:Nat} {l:List α} (h:W enc sz w a g l) (hk:aC F w w') (hd:∀x∈fp g l,x∉F):W enc sz w' a g l:=λi hi=>by
 obtain⟨e,hg,hc⟩:=h i hi;have hne:g∉F:=hd g (dK Aaa);exact⟨e,Nat.lt_of_lt_of_le hg hk.size,λj hj=>⟨(World.cell?_of_block (w:=w) (hk.block g hg hne)).trans (hc j hj).1,(World.frozen?_of_block (w:=w) (hk.block g hg hne)).trans (hc j hj).2⟩⟩
theorem W.below {w w':World} {a:Option Addr} {g:Nat} {l:List α} (h:W enc sz w a g l) (hb:aY w w'):W enc sz w' a g l:=h.keeps (F:=[]) (aC.of_below hb) (λ_ _=>Aac)
theorem W.of_own {w:World} {B:Nat} {t:TypeId} {v:Value} {l:List α} (hs:∀x,(enc x).length=sz) (h:w.ownsRow B t sz v l.length (flat enc l)):∃a c g,v= .slice a l.length c/\W enc sz w a g l/\(∀x∈fp g l,B<=x/\x < w.heap.size)/\(∀x∈fp g l,v.ownBlock=some x):=by
 obtain⟨a,c,rfl,hat⟩:=own_at hs h;rcases h.2 with⟨hv,hn⟩|⟨g,cap,cur,hv,hg,hblk,_⟩
 .have hl:l=[]:=List.eq_nil_of_length_eq_zero hn;subst hl;exact⟨_,_,0,rfl,W.nil,λx hx=>by simp[fp] at hx,λx hx=>by simp[fp] at hx⟩
 .cases hv
  refine⟨_,_,g,rfl,λi hi=>?_,λx hx=>?_,λx hx=>?_⟩
  .exact agZ
  .rw [(gV hx).1];exact⟨hg,aA hblk⟩
  .rw [(gV hx).1];rfl
end GR
theorem tO {g k:Nat}:∀(vs:List Value) (w:World) (o:Nat),k < o\/o+vs.length<=k->(GR.setW w g o vs).cell? ⟨g,k,none⟩=w.cell? ⟨g,k,none⟩:=by
 exact axG
theorem D9 {g:Nat}:∀(vs:List Value) (w:World) (o:Nat),(∀j,j < vs.length->∃v,w.cell? ⟨g,o+j,none⟩=some v)->∀j,j < vs.length->(GR.setW w g o vs).cell? ⟨g,o+j,none⟩=vs[j]?:=by
 intro vs;induction vs with
 |nil=>intro w o _ j hj;simp at hj
 |cons v vs ih=>
  intro w o h j hj
  cases j with
  |zero=>
   obtain⟨v0,hv0⟩:=h 0 Aac
   rw [Nat.add_zero] at hv0 ⊢
   refine(tO vs (w.setCell ⟨g,o,none⟩ v) (o+1) Aaa).trans ?_
   rw [World.cell?_setCell_same _ _ _ hv0]
   rfl
  |succ j=>
   have h2:=ih (w.setCell ⟨g,o,none⟩ v) (o+1) (λj' hj'=>by
    obtain⟨v1,hv1⟩:=h (j'+1) Acp
    refine⟨v1,(World.cell?_setCell_other _ _ _ _ (by simp<;>omega)).trans ?_⟩
    rw [<-hv1,show o+1+j'=o+(j'+1) by omega]) j Abd
   rw [show o+1+j=o+(j+1) by omega] at h2
   exact h2
theorem MK {g k:Nat}:∀(vs:List Value) (w:World) (o:Nat),(GR.setW w g o vs).frozen? ⟨g,k,none⟩=w.frozen? ⟨g,k,none⟩:=by
 exact ahc
theorem Ug {g:Nat}:∀(vs:List Value) (w:World) (o:Nat),(GR.setW w g o vs).heap.size=w.heap.size:=by
 exact ahg
theorem aK {g:Nat}:∀(vs:List Value) (w:World) (o:Nat),aC [g] w (GR.setW w g o vs):=by
 intro vs;induction vs with
 |nil=>intro w o;exact aC.refl _ _
 |cons v vs ih=>intro w o;exact(aC.set v).trans (ih (w.setCell ⟨g,o,none⟩ v) (o+1))
theorem GR.W.set {α:Type} {enc:α->List Value} {sz:Nat} {w:World} {a:Option Addr} {g:Nat} {l:List α} (hs:∀x,(enc x).length=sz) (h:GR.W enc sz w a g l) (k:Nat) (x:α) (hk:k < l.length):GR.W enc sz (GR.setW w g (k*sz) (enc x)) a g (l.set k x):=λi hi=>by
 have hi':i < l.length:=Aaq
 obtain⟨e,hg,hc⟩:=h i hi';refine⟨e,by rw [Ug];exact hg,λj hj=>⟨?_,by rw [MK];exact(hc j hj).2⟩⟩;by_cases hik:i=k
 .subst hik
  rw [D9 (enc x) w (i*sz) (λj' hj'=>by
   have hj4:j' < sz:=by rw [hs] at hj';exact hj'
   have h1:=(hc j' hj4).1
   rw [List.getElem?_eq_getElem (by rw [hs];exact hj4)] at h1
   exact⟨_,h1⟩) j (by rw [hs];exact hj)]
  simp
 .have hcase:i*sz+j < k*sz\/k*sz+sz<=i*sz+j:=by
   rcases Nat.lt_or_gt_of_ne hik with h'|h'
   .left
    have:=Nat.mul_le_mul_right sz (show i+1<=k by omega);exact aaQ
   .right
    have:=Nat.mul_le_mul_right sz (show k+1<=i by omega);exact aaQ
  rw [tO (enc x) w (k*sz) (by rw [hs];exact hcase),(hc j hj).1,List.getElem_set_ne Aaa]
theorem SV {α β:Type} {g:Nat} {l:List α} {l':List β} (h:l.length=l'.length):fp g l=fp g l':=by
 unfold fp;cases l with
 |nil=>cases l' with|nil=>rfl|cons y l'=>simp at h
 |cons x l=>cases l' with|nil=>simp at h|cons y l'=>rfl
def GR.C (w:World) (a:Option Addr) (g:Nat) (cs:List Value):Prop:=∀j (hj:j < cs.length),a=some ⟨g,0,none⟩/\g < w.heap.size/\w.cell? ⟨g,j,none⟩=some cs[j]/\w.frozen? ⟨g,j,none⟩=false
set_option maxRecDepth 100000
theorem ajK (n:Int) (w:World):Calls Tryz.prog 133 #[.int .i64 n] w λe w'=>e= .returned (.bool (decide (wL n 0 1000000000)))/\w=w':=by
 by_cases h0:0<=n
 .by_cases h1:n<=1000000000
  .rw [decide_eq_true (show wL n 0 1000000000 from⟨h0,h1⟩)];exact aaC
  .rw [decide_eq_false (show¬wL n 0 1000000000 from λh=>h1 h.2)];exact aaC
 .rw [decide_eq_false (show¬wL n 0 1000000000 from λh=>h0 h.1)];exact aaC
theorem kV (n:Int) (b:Bool) (w:World) (h:ru n=b):Calls Tryz.prog 133 #[.int .i64 n] w λe w'=>e= .returned (.bool b)/\w=w':=by
 have e:decide (wL n 0 1000000000)=b:=h;rw [<-e];exact ajK n w
theorem zM (s:ByteArray) (b:Bool) (w:World) (h:keyOk s.data.toList=b):Calls Tryz.prog 131 #[.string s] w λe w'=>e= .returned (.bool b)/\w=w':=by
 rw [<-h];exact JU s w
theorem abO (p:Pu) (w:World):Calls Tryz.prog 129 #[Al p] w (fF w (.bool (gX p))):=by
 obtain⟨pk,pm,pf,ps⟩:=p;cases hk:keyOk pk.data.toList
 case' false=>
  have HP:=Hq (show gX ⟨pk,pm,pf,ps⟩=false by simp[gX,hk])
  have HK:=Hq (λw1=>zM pk false w1 hk)
  clear hk
  go_in
  go_wp2_with (go_at_call 131;refine(HK _).mono ?_;rintro e w1 ⟨rfl,rfl⟩)
  go_ret
  exact⟨aD HP.symm,dU w _⟩
 have HK:=Hq (λw1=>zM pk true w1 hk);cases h1:ru pm
 case' false=>
  have HP:=Hq (show gX ⟨pk,pm,pf,ps⟩=false by simp[gX,h1])
  have H1:=Hq (λw1=>kV pm false w1 h1)
  clear hk h1
  go_in
  go_wp2_with (first|(go_at_call 131;refine(HK _).mono ?_;rintro e w1 ⟨rfl,rfl⟩)|(go_at_call 133;refine(H1 _).mono ?_;rintro e w1 ⟨rfl,rfl⟩))
  go_ret
  exact⟨aD HP.symm,dU w _⟩
 have H1:=Hq (λw1=>kV pm true w1 h1);cases h2:ru pf
 case' false=>
  have HP:=Hq (show gX ⟨pk,pm,pf,ps⟩=false by simp[gX,h2])
  have H2:=Hq (λw1=>kV pf false w1 h2)
  clear hk h1 h2
  go_in
  go_wp2_with (first|(go_at_call 131;refine(HK _).mono ?_;rintro e w1 ⟨rfl,rfl⟩)|(go_at_call_of 133 pm;refine(H1 _).mono ?_;rintro e w1 ⟨rfl,rfl⟩)|(go_at_call_of 133 pf;refine(H2 _).mono ?_;rintro e w1 ⟨rfl,rfl⟩))
  go_ret
  exact⟨aD HP.symm,dU w _⟩
 have H2:=Hq (λw1=>kV pf true w1 h2);cases h3:ru ps
 case' false=>
  have HP:=Hq (show gX ⟨pk,pm,pf,ps⟩=false by simp[gX,h3])
  have H3:=Hq (λw1=>kV ps false w1 h3)
  clear hk h1 h2 h3
  go_in
  go_wp2_with (first|(go_at_call 131;refine(HK _).mono ?_;rintro e w1 ⟨rfl,rfl⟩)|(go_at_call_of 133 pm;refine(H1 _).mono ?_;rintro e w1 ⟨rfl,rfl⟩)|(go_at_call_of 133 pf;refine(H2 _).mono ?_;rintro e w1 ⟨rfl,rfl⟩)|(go_at_call_of 133 ps;refine(H3 _).mono ?_;rintro e w1 ⟨rfl,rfl⟩))
  go_ret
  exact⟨aD HP.symm,dU w _⟩
 have H3:=Hq (λw1=>kV ps true w1 h3);have g2:0<=pf/\pf<=1000000000:=of_decide_eq_true h2;have g3:0<=ps/\ps<=1000000000:=of_decide_eq_true h3;obtain⟨g20,g21⟩:=g2;obtain⟨g30,g31⟩:=g3;have HP:=Hq (show gX ⟨pk,pm,pf,ps⟩=ru (pf+ps) by simp[gX,hk,h1,h2,h3]);have H4:=Hq (λw1=>kV (pf+ps) _ w1 rfl);clear hk h1 h2 h3;go_in
 go_wp2_with (first|(go_at_call 131;refine(HK _).mono ?_;rintro e w1 ⟨rfl,rfl⟩)|(go_at_call_of 133 pm;refine(H1 _).mono ?_;rintro e w1 ⟨rfl,rfl⟩)|(go_at_call_of 133 pf;refine(H2 _).mono ?_;rintro e w1 ⟨rfl,rfl⟩)|(go_at_call_of 133 ps;refine(H3 _).mono ?_;rintro e w1 ⟨rfl,rfl⟩)|(go_at_call_of 133 (pf+ps);refine(H4 _).mono ?_;rintro e w1 ⟨rfl,rfl⟩))
 go_ret;exact⟨aD HP.symm,dU w _⟩
def BJ (w:World) (a:Option Addr) (g:Nat) (l:List Pu):Prop:=∀i (hi:i < l.length),a=some ⟨g,0,none⟩/\g < w.heap.size/\∀j,j < 4->w.cell? ⟨g,i*4+j,none⟩=(fH l[i])[j]?/\w.frozen? ⟨g,i*4+j,none⟩=false
theorem BJ.of_blk {w:World} {g:Nat} {l:List Pu} (h:wD w g l):BJ w (some ⟨g,0,none⟩) g l:=λi hi=>
 ⟨rfl,GR.Blk.lt h,λj hj=>⟨GR.Blk.cell h aX i hi j hj,GR.Blk.free h _⟩⟩
theorem BJ.nil {w:World} {a:Option Addr} {g:Nat}:BJ w a g []:=λi hi=>by simp at hi
theorem BJ.below {w w':World} {a:Option Addr} {g:Nat} {l:List Pu} (h:BJ w a g l) (hb:aY w w'):BJ w' a g l:=λi hi=>by
 obtain⟨e,hg,hc⟩:=h i hi;exact⟨e,Nat.lt_of_lt_of_le hg hb.size,λj hj=>⟨(hb.cell (p:=⟨g,i*4+j,none⟩) hg).trans (hc j hj).1,(hb.frozen (p:=⟨g,i*4+j,none⟩) hg).trans (hc j hj).2⟩⟩
theorem BJ.four {w:World} {a:Option Addr} {g:Nat} {l:List Pu} (h:BJ w a g l) (i:Nat) (hi:i < l.length):a=some ⟨g,0,none⟩/\g < w.heap.size/\(w.cell? ⟨g,i*4,none⟩=some (.string l[i].k)/\w.cell? ⟨g,i*4+1,none⟩=some (.int .i64 l[i].m)/\w.cell? ⟨g,i*4+2,none⟩=some (.int .i64 l[i].f)/\w.cell? ⟨g,i*4+3,none⟩=some (.int .i64 l[i].s))/\w.frozen? ⟨g,i*4,none⟩=false/\w.frozen? ⟨g,i*4+1,none⟩=false/\w.frozen? ⟨g,i*4+2,none⟩=false/\w.frozen? ⟨g,i*4+3,none⟩=false:=by
 exact axB
theorem vG {g k:Nat}:∀(vs:List Value) (w:World) (o:Nat),k < o\/o+vs.length<=k->(GR.setW w g o vs).cell? ⟨g,k,none⟩=w.cell? ⟨g,k,none⟩:=by
 exact axG
theorem Gd {g:Nat}:∀(vs:List Value) (w:World) (o:Nat),(∀j,j < vs.length->∃v,w.cell? ⟨g,o+j,none⟩=some v)->∀j,j < vs.length->(GR.setW w g o vs).cell? ⟨g,o+j,none⟩=vs[j]?:=by
 intro vs;induction vs with
 |nil=>intro w o _ j hj;simp at hj
 |cons v vs ih=>
  intro w o h j hj
  cases j with
  |zero=>
   obtain⟨v0,hv0⟩:=h 0 Aac
   rw [Nat.add_zero] at hv0 ⊢
   refine(vG vs (w.setCell ⟨g,o,none⟩ v) (o+1) Aaa).trans ?_
   rw [World.cell?_setCell_same _ _ _ hv0]
   rfl
  |succ j=>
   have h2:=ih (w.setCell ⟨g,o,none⟩ v) (o+1) (λj' hj'=>by
    obtain⟨v1,hv1⟩:=h (j'+1) Acp
    refine⟨v1,(World.cell?_setCell_other _ _ _ _ (by simp<;>omega)).trans ?_⟩
    rw [<-hv1,show o+1+j'=o+(j'+1) by omega]) j Abd
   rw [show o+1+j=o+(j+1) by omega] at h2
   exact h2
theorem QF {g k:Nat}:∀(vs:List Value) (w:World) (o:Nat),(GR.setW w g o vs).frozen? ⟨g,k,none⟩=w.frozen? ⟨g,k,none⟩:=by
 exact ahc
theorem Yp {g:Nat}:∀(vs:List Value) (w:World) (o:Nat),(GR.setW w g o vs).heap.size=w.heap.size:=by
 exact ahg
theorem BJ.set {w:World} {a:Option Addr} {g:Nat} {l:List Pu} (h:BJ w a g l) (k:Nat) (x:Pu) (hk:k < l.length):BJ (GR.setW w g (k*4) (fH x)) a g (l.set k x):=λi hi=>by
 have hi':i < l.length:=Aaq
 obtain⟨e,hg,hc⟩:=h i hi';refine⟨e,by rw [Yp];exact hg,λj hj=>⟨?_,by rw [QF];exact(hc j hj).2⟩⟩;by_cases hik:i=k
 .subst hik
  rw [Gd (fH x) w (i*4) (λj' hj'=>by
   have hj4:j' < 4:=by rw [aX] at hj';exact hj'
   have h1:=(hc j' hj4).1
   rw [List.getElem?_eq_getElem (by rw [aX];exact hj4)] at h1
   exact⟨_,h1⟩) j (by rw [aX];exact hj)]
  simp
 .rw [vG (fH x) w (k*4) (by rw [aX];omega),(hc j hj).1,List.getElem_set_ne Aaa]
theorem zR (a:Option Addr) (cap:Nat) (l:List Pu) (w:World) (hl:l.length<=1048600) (hn:a=none->l.length=0/\cap=0) (ha:aI w a l):
 Calls Tryz.prog 114 #[.slice a l.length cap] w λe w'=>∃v,e= .returned v/\v≠ .slice none 0 0/\w'.ownsRow w.heap.size 143 4 v l.length (GR.flat fH l)/\aY w w':=by
 obtain⟨i0,hi,hz0,hz1,hz2⟩:=info_parts Cm;open avc in exact agG
theorem own_lower {w:World} {b b':Nat} {e:TypeId} {sz:Nat} {v:Value} {n:Nat} {xs:List Value} (h:w.ownsRow b e sz v n xs) (hb:b'<=b):w.ownsRow b' e sz v n xs:=by
 exact ahm
theorem Qa (a:Option Addr) (cap:Nat) (l:List Pu) (p:Pu) (n:Int) (w:World) (hl:l.length<=1048600) (hk:∀p∈l,p.k.size<=maxLen) (hn:a=none->l.length=0/\cap=0) (ha:aI w a l) (hno:jo l=false\/¬(1<=n/\n<=1000000000)):
 Calls Tryz.prog 173 #[.slice a l.length cap,Al p,.int .i64 n] w λe w'=>∃v,e= .returned (.tuple #[v,.bool false])/\v≠ .slice none 0 0/\w'.ownsRow w.heap.size 143 4 v l.length (GR.flat fH l)/\aY w w':=by
 have lD:=Hq (λw1 (h:aI w1 a l)=>kZ a cap l w1 hl hk h);have Du:=Hq (λw1 (h:aI w1 a l)=>zR a cap l w1 hl hn h);have HA:=Hq ha;clear ha hk hn;obtain⟨pk,pm,pf,ps⟩:=p;go_in
 go_wp2_with fail;refine(lD _ (GR.At.below HA (dU w _))).mono ?_;rintro e w1 ⟨rfl,hb1⟩;have HB1:=Hq ((dU w _).trans (hb1.mono (dU w _).size));clear hb1;cases hok:jo l with
 |false=>
  go_wp2_with fail
  refine(Du _ (GR.At.below HA HB1)).mono ?_
  rintro e w2 ⟨v,rfl,hnn,hrow,hb2⟩
  have Rp:=Hq hnn
  have HR:=Hq (own_lower hrow HB1.size)
  have HB2:=Hq (HB1.trans (hb2.mono HB1.size))
  clear hrow hb2 hnn
  go_wp2_with fail
  refine bodyPost_ret (v:= .tuple #[v,.bool false]) Acb rfl ⟨v,rfl,Rp,HR,HB2⟩
 |true=>
  have hn2:decide (wL n 1 1000000000)=false:=decide_eq_false (by rcases hno with h|h;(rw [hok] at h;cases h);exact h)
  go_wp2_with fail
  refine(Mh _ _ _ _).mono ?_
  rintro e w3 ⟨rfl,rfl⟩
  rw [hn2]
  go_wp2_with fail
  refine(Du _ (GR.At.below HA HB1)).mono ?_
  rintro e w2 ⟨v,rfl,hnn,hrow,hb2⟩
  have Rp:=Hq hnn
  have HR:=Hq (own_lower hrow HB1.size)
  have HB2:=Hq (HB1.trans (hb2.mono HB1.size))
  clear hrow hb2 hnn
  go_wp2_with fail
  refine bodyPost_ret (v:= .tuple #[v,.bool false]) Acb rfl ⟨v,rfl,Rp,HR,HB2⟩
theorem ac1 (f:Pu->Bool):∀(l:List Pu) (k:Nat),k<=l.length->(∀q∈l.take k,f q=true)->(∀h:k < l.length,f l[k]=false)->l.takeWhile f=l.take k/\l.dropWhile f=l.drop k:=by
 intro l;induction l with
 |nil=>intro k hk _ _;simp
 |cons x r ih=>
  intro k hk h1 h2
  cases k with
  |zero=>
   have hx:f x=false:=h2 Aac
   simp[hx]
  |succ k=>
   have hx:f x=true:=h1 x Aac
   obtain⟨g1,g2⟩:=ih k Ach (λq hq=>h1 q (by simp[hq])) (λh=>h2 Abg)
   simp[hx,g1,g2]
end Go.Proofs.YtacgbldlonoaaaaGreatDoor
