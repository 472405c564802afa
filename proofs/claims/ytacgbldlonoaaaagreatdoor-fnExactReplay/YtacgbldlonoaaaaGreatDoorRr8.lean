/- Parts. -/
import Derived.Test.YtacgbldlonoaaaaGreatDoorRr2
import Derived.Test.YtacgbldlonoaaaaGreatDoorRr6
import Derived.Test.YtacgbldlonoaaaaGreatDoorRr4
namespace Go.Proofs.YtacgbldlonoaaaaGreatDoor
set_option maxHeartbeats 4000000
set_option maxRecDepth 100000
open Go.RowKit
open Mth
abbrev aH (w:World) (a:Option Addr) (l:List Pu):Prop:=GR.At fE 4 w a l
theorem aH.four {w:World} {a:Option Addr} {l:List Pu} (h:aH w a l) (i:Nat) (hi:i < l.length):∃g off,a=some ⟨g,off,none⟩/\g < w.heap.size/\w.cell? ⟨g,off+i*4,none⟩=some (.string l[i].k)/\w.cell? ⟨g,off+i*4+1,none⟩=some (.int .i64 l[i].m)/\w.cell? ⟨g,off+i*4+2,none⟩=some (.int .i64 l[i].f)/\w.cell? ⟨g,off+i*4+3,none⟩=some (.int .i64 l[i].s):=by
 exact afF
theorem nT (s:ByteArray) (b:Bool) (hs:s.size<=maxLen) (hb:keyOk s.data.toList=b) (W:World) (n:Nat):Calls Tryz.prog 64 #[.string s] (W.drewN n) λe w''=>e= .returned (.bool b)/\∃m,w''=W.drewN m:=by
 rw [<-hb];exact(Iq s _ hs).mono λe w' ⟨he,hw⟩=>⟨he,n,hw.symm⟩
theorem gB (x:Int) (b:Bool) (hb:decide (vR x 0 1000000000)=b) (W:World) (n:Nat):Calls Tryz.prog 62 #[.int .i64 x] (W.drewN n) λe w''=>e= .returned (.bool b)/\∃m,w''=W.drewN m:=by
 rw [<-hb];exact(l01Amount x _).mono λe w' ⟨he,hw⟩=>⟨he,n,hw.symm⟩
theorem nV (a:Option Addr) (cap:Nat) (l:List Pu) (w:World) (hl:l.length<=1048600) (hk:∀p∈l,p.k.size<=maxLen) (ha:aH w a l):
 Calls Tryz.prog 59 #[.slice a l.length cap] w (eP w (.bool (iW l))):=by
 have HA:=Hq ha;have HK:=Hq hk;clear ha hk;go_enter Tryz.func59,Tryz.ntmps59
 go_wp2_with fail;go_loopw [3] (λi wr=>∃k:Nat,k<=l.length/\i= .int .i64 k/\(List.range k).all (jT l)=true/\aX w wr) (λi _=>l.length - (intOf i).toNat)
 case atStart=>exact Xx
 case round=>
  obtain⟨k,hk,rfl,hall,hbel⟩:=hrel;have fO:=Hq hbel;have mV:=Hq hall;clear hall hbel;by_cases hlt:k < l.length
  .have hks:=ah HK l[k] (List.getElem_mem hlt);open ajE in exact arF
  .exact asL
theorem uL (a:Option Addr) (cap:Nat) (l:List Pu) (key:ByteArray) (w:World) (hl:l.length<=1048600) (ha:aH w a l):
 Calls Tryz.prog 120 #[.slice a l.length cap,.string key] w (eP w (zi (aG l key))):=by
 have HA:=Hq ha;clear ha;go_enter Tryz.func120,Tryz.ntmps120
 go_wp2_with fail;go_loopw [5] (λi wr=>∃k:Nat,k<=l.length/\i= .int .i64 k/\(l.take k).find? (λp=>p.k.toList == key.toList)=none/\wr=w.alloc (.cells (iL ⟨#[]⟩ 0 0 0) 143)) (λi _=>l.length - (intOf i).toNat)
 case atStart=>exact⟨0,Nat.zero_le _,rfl,rfl,rfl⟩
 case round=>
  obtain⟨k,hk,rfl,hnone,rfl⟩:=hrel;have HN:=Hq hnone;clear hnone;by_cases hlt:k < l.length
  .obtain⟨g,off,rfl,hgw,c0,c1,c2,c3⟩:=aH.four HA k hlt;have hfs:=GN (λp=>p.k.toList == key.toList) l k hlt HN;cases hf:l[k].k.toList == key.toList
   .have HX:=Hq (hfs.2 hf);clear hfs HN;open aqy in exact Xc
   .have HX:=Hq (show aG l key=l[k] by unfold aG;rw [hfs.1 hf];rfl);clear hfs HN;open aqx in exact Xc
  .open akm in exact IX
theorem fJ {w:World} {g:Nat} {a0 a1 a2 a3:Value} {t:TypeId} (h:w.heap[g]?=some (.cells #[a0,a1,a2,a3] t (0,0))):
 (w.cell? ⟨g,0,none⟩=some a0/\w.cell? ⟨g,1,none⟩=some a1/\w.cell? ⟨g,2,none⟩=some a2/\w.cell? ⟨g,3,none⟩=some a3)/\(w.frozen? ⟨g,0,none⟩=false/\w.frozen? ⟨g,1,none⟩=false/\w.frozen? ⟨g,2,none⟩=false/\w.frozen? ⟨g,3,none⟩=false):=by
 have hc:∀i,w.cell? ⟨g,i,none⟩=#[a0,a1,a2,a3][i]?:=λi=>cell_of_row w g i _ t (0,0) h
 have hf:∀i,w.frozen? ⟨g,i,none⟩=false:=λi=>by unfold World.frozen?;rw [h];simp
 exact⟨⟨hc 0,hc 1,hc 2,hc 3⟩,hf 0,hf 1,hf 2,hf 3⟩
theorem dM (w:World) (o:Obj):Below w.heap.size w (w.alloc o):=(Below.refl _ _).alloc (Nat.le_refl _) _
theorem Du:(Tryz.prog.info? 143).map (λi=>(i.zero,i.size,i.bytes))=some (some (.agg (iL ByteArray.empty 0 0 0)),4,40):=Aab
theorem aH.news {w:World} {x:Addr} {l:List Pu} (h:aH w (some x) l):∀j u,(GR.flat fE l)[j]?=some u->w.cell? (x.add j)=some u:=by
 intro j u hu
 have hj:j < l.length*4:=by
  have:=(List.getElem?_eq_some_iff.1 hu).1;rwa [GR.flat_length fE 4 aZ] at this
 obtain⟨g,off,e,hg,hc⟩:=h (j / 4) Aaa;have hf:=GR.flat_at fE 4 aZ l (j / 4) Aaa (j % 4) Aaa;have ej:j / 4*4+j % 4=j:=Aaa
 rw [ej] at hf;have h2:=hc (j % 4) Aaa;exact adP
theorem xQ (l:List Pu):∀u∈GR.flat fE l,u.oneCell'=true:=by
 intro u hu;unfold GR.flat at hu;rw [List.mem_flatMap] at hu;obtain⟨p,_,hp⟩:=hu;simp only[fE,List.mem_cons,List.not_mem_nil,or_false] at hp;rcases hp with rfl|rfl|rfl|rfl<;>rfl
abbrev uH (w:World) (g:Nat) (l:List Pu):Prop:=GR.Blk fE 143 w g l
theorem uH.four {w:World} {g:Nat} {l:List Pu} (h:uH w g l) (i:Nat) (hi:i < l.length):w.cell? ⟨g,i*4,none⟩=some (.string l[i].k)/\w.cell? ⟨g,i*4+1,none⟩=some (.int .i64 l[i].m)/\w.cell? ⟨g,i*4+2,none⟩=some (.int .i64 l[i].f)/\w.cell? ⟨g,i*4+3,none⟩=some (.int .i64 l[i].s):=
 ⟨by simpa using GR.Blk.cell h aZ i hi 0 Aaa,by simpa using GR.Blk.cell h aZ i hi 1 Aaa,by simpa using GR.Blk.cell h aZ i hi 2 Aaa,by simpa using GR.Blk.cell h aZ i hi 3 Aaa⟩
theorem Rx {w w':World} {g:Nat} {l:List Pu} (h:uH w g l) (hb:aX w w'):uH w' g l:=by
 have hl:=GR.Blk.lt h;unfold uH GR.Blk at *;rw [hb.block g hl];exact h
theorem Nh (n:Nat) (hn:n<=2000000):∀W:World,(Instr.makeSlice 25 (.int .i64 (n:Int)) (.int .i64 (n:Int))).run Tryz.prog W= .ok (.slice (some ⟨W.heap.size,0,none⟩) n n) (W.alloc (.cells (GR.flat fE (List.replicate n ⟨ByteArray.empty,0,0,0⟩)).toArray 143)):=by
 obtain⟨i0,hi,hz0,hz1,hz2⟩:=info_parts Du;intro W;have h:=run_make (P:=Tryz.prog) W 25 143 i0 (.agg (iL ByteArray.empty 0 0 0)) Tryz.underlying25 hi hz0 .i64 .i64 (n:Int) (n:Int) Aaa Aaa (by rw [hz2];omega) Aaa;rw [hz1] at h;have e:=GR.made_flat fE 4 aZ Aaa ⟨ByteArray.empty,0,0,0⟩ (Value.agg (iL ByteArray.empty 0 0 0)).cells rfl n;simp only[Int.toNat_natCast] at h;rw [e] at h;exact h
theorem OG (l:List Pu) (z:Pu) (k:Nat) (hk:k < l.length):(l.take k++List.replicate (l.length - k) z).set k l[k]=l.take (k+1)++List.replicate (l.length - (k+1)) z:=by
 have hlen:(l.take k).length=k:=Aag
 rw [List.set_append_right _ _ Aaa,hlen,Nat.sub_self];have e:l.length - k=(l.length - (k+1))+1:=Aaa
 rw [e,List.replicate_succ,List.take_succ_eq_append_getElem hk,List.append_assoc];rfl
theorem agd (n:Int) (w:World):Calls Tryz.prog 133 #[.int .i64 n] w λe w'=>e= .returned (.bool (decide (vR n 0 1000000000)))/\w=w':=by
 by_cases h0:0<=n
 .by_cases h1:n<=1000000000
  .rw [decide_eq_true (show vR n 0 1000000000 from⟨h0,h1⟩)];exact Xk
  .rw [decide_eq_false (show¬vR n 0 1000000000 from λh=>h1 h.2)];exact Xk
 .rw [decide_eq_false (show¬vR n 0 1000000000 from λh=>h0 h.1)];exact Xk
theorem jR (n:Int) (b:Bool) (w:World) (h:pz n=b):Calls Tryz.prog 133 #[.int .i64 n] w λe w'=>e= .returned (.bool b)/\w=w':=by
 have e:decide (vR n 0 1000000000)=b:=h;rw [<-e];exact agd n w
theorem xY (s:ByteArray) (b:Bool) (w:World) (h:keyOk s.data.toList=b):Calls Tryz.prog 131 #[.string s] w λe w'=>e= .returned (.bool b)/\w=w':=by
 rw [<-h];exact GZ s w
theorem Yz (p:Pu) (w:World):Calls Tryz.prog 129 #[zi p] w (eP w (.bool (gJ p))):=by
 obtain⟨pk,pm,pf,ps⟩:=p;cases hk:keyOk pk.data.toList
 case' false=>
  have HP:=Hq (show gJ ⟨pk,pm,pf,ps⟩=false by simp[gJ,hk])
  have HK:=Hq (λw1=>xY pk false w1 hk)
  clear hk
  go_enter Tryz.func129,Tryz.ntmps129
  go_wp2_with (go_at_call 131;refine(HK _).mono ?_;rintro e w1 ⟨rfl,rfl⟩)
  go_ret
  exact⟨aD HP.symm,dM w _⟩
 have HK:=Hq (λw1=>xY pk true w1 hk);cases h1:pz pm
 case' false=>
  have HP:=Hq (show gJ ⟨pk,pm,pf,ps⟩=false by simp[gJ,h1])
  have H1:=Hq (λw1=>jR pm false w1 h1)
  clear hk h1
  go_enter Tryz.func129,Tryz.ntmps129
  go_wp2_with (first|(go_at_call 131;refine(HK _).mono ?_;rintro e w1 ⟨rfl,rfl⟩)|(go_at_call 133;refine(H1 _).mono ?_;rintro e w1 ⟨rfl,rfl⟩))
  go_ret
  exact⟨aD HP.symm,dM w _⟩
 have H1:=Hq (λw1=>jR pm true w1 h1);cases h2:pz pf
 case' false=>
  have HP:=Hq (show gJ ⟨pk,pm,pf,ps⟩=false by simp[gJ,h2])
  have H2:=Hq (λw1=>jR pf false w1 h2)
  clear hk h1 h2
  go_enter Tryz.func129,Tryz.ntmps129
  go_wp2_with (first|(go_at_call 131;refine(HK _).mono ?_;rintro e w1 ⟨rfl,rfl⟩)|(go_at_call_of 133 pm;refine(H1 _).mono ?_;rintro e w1 ⟨rfl,rfl⟩)|(go_at_call_of 133 pf;refine(H2 _).mono ?_;rintro e w1 ⟨rfl,rfl⟩))
  go_ret
  exact⟨aD HP.symm,dM w _⟩
 have H2:=Hq (λw1=>jR pf true w1 h2);cases h3:pz ps
 case' false=>
  have HP:=Hq (show gJ ⟨pk,pm,pf,ps⟩=false by simp[gJ,h3])
  have H3:=Hq (λw1=>jR ps false w1 h3)
  clear hk h1 h2 h3
  go_enter Tryz.func129,Tryz.ntmps129
  go_wp2_with (first|(go_at_call 131;refine(HK _).mono ?_;rintro e w1 ⟨rfl,rfl⟩)|(go_at_call_of 133 pm;refine(H1 _).mono ?_;rintro e w1 ⟨rfl,rfl⟩)|(go_at_call_of 133 pf;refine(H2 _).mono ?_;rintro e w1 ⟨rfl,rfl⟩)|(go_at_call_of 133 ps;refine(H3 _).mono ?_;rintro e w1 ⟨rfl,rfl⟩))
  go_ret
  exact⟨aD HP.symm,dM w _⟩
 have H3:=Hq (λw1=>jR ps true w1 h3);have g2:0<=pf/\pf<=1000000000:=of_decide_eq_true h2;have g3:0<=ps/\ps<=1000000000:=of_decide_eq_true h3;obtain⟨g20,g21⟩:=g2;obtain⟨g30,g31⟩:=g3;have HP:=Hq (show gJ ⟨pk,pm,pf,ps⟩=pz (pf+ps) by simp[gJ,hk,h1,h2,h3]);have H4:=Hq (λw1=>jR (pf+ps) _ w1 rfl);clear hk h1 h2 h3;go_enter Tryz.func129,Tryz.ntmps129
 go_wp2_with (first|(go_at_call 131;refine(HK _).mono ?_;rintro e w1 ⟨rfl,rfl⟩)|(go_at_call_of 133 pm;refine(H1 _).mono ?_;rintro e w1 ⟨rfl,rfl⟩)|(go_at_call_of 133 pf;refine(H2 _).mono ?_;rintro e w1 ⟨rfl,rfl⟩)|(go_at_call_of 133 ps;refine(H3 _).mono ?_;rintro e w1 ⟨rfl,rfl⟩)|(go_at_call_of 133 (pf+ps);refine(H4 _).mono ?_;rintro e w1 ⟨rfl,rfl⟩))
 go_ret;exact⟨aD HP.symm,dM w _⟩
def vK (w:World) (a:Option Addr) (g:Nat) (l:List Pu):Prop:=∀i (hi:i < l.length),a=some ⟨g,0,none⟩/\g < w.heap.size/\∀j,j < 4->w.cell? ⟨g,i*4+j,none⟩=(fE l[i])[j]?/\w.frozen? ⟨g,i*4+j,none⟩=false
theorem vK.at {w:World} {a:Option Addr} {g:Nat} {l:List Pu} (h:vK w a g l):aH w a l:=λi hi=>
 ⟨g,0,(h i hi).1,(h i hi).2.1,λj hj=>by rw [Nat.zero_add];exact((h i hi).2.2 j hj).1⟩
theorem vK.of_blk {w:World} {g:Nat} {l:List Pu} (h:uH w g l):vK w (some ⟨g,0,none⟩) g l:=λi hi=>
 ⟨rfl,GR.Blk.lt h,λj hj=>⟨GR.Blk.cell h aZ i hi j hj,GR.Blk.free h _⟩⟩
theorem vK.nil {w:World} {a:Option Addr} {g:Nat}:vK w a g []:=λi hi=>by simp at hi
theorem vK.below {w w':World} {a:Option Addr} {g:Nat} {l:List Pu} (h:vK w a g l) (hb:aX w w'):vK w' a g l:=λi hi=>by
 obtain⟨e,hg,hc⟩:=h i hi;exact⟨e,Nat.lt_of_lt_of_le hg hb.size,λj hj=>⟨(hb.cell (p:=⟨g,i*4+j,none⟩) hg).trans (hc j hj).1,(hb.frozen (p:=⟨g,i*4+j,none⟩) hg).trans (hc j hj).2⟩⟩
theorem vK.keeps {w w':World} {a:Option Addr} {g g':Nat} {l:List Pu} (h:vK w a g l) (hk:Keeps g' w w') (hne:l=[]\/g≠g'):vK w' a g l:=by
 rcases hne with rfl|hne
 .exact vK.nil
 .intro i hi;obtain⟨e,hg,hc⟩:=h i hi;exact as4
theorem vK.four {w:World} {a:Option Addr} {g:Nat} {l:List Pu} (h:vK w a g l) (i:Nat) (hi:i < l.length):a=some ⟨g,0,none⟩/\g < w.heap.size/\(w.cell? ⟨g,i*4,none⟩=some (.string l[i].k)/\w.cell? ⟨g,i*4+1,none⟩=some (.int .i64 l[i].m)/\w.cell? ⟨g,i*4+2,none⟩=some (.int .i64 l[i].f)/\w.cell? ⟨g,i*4+3,none⟩=some (.int .i64 l[i].s))/\w.frozen? ⟨g,i*4,none⟩=false/\w.frozen? ⟨g,i*4+1,none⟩=false/\w.frozen? ⟨g,i*4+2,none⟩=false/\w.frozen? ⟨g,i*4+3,none⟩=false:=by
 exact asJ
theorem tH {g k:Nat}:∀(vs:List Value) (w:World) (o:Nat),k < o\/o+vs.length<=k->(GR.setW w g o vs).cell? ⟨g,k,none⟩=w.cell? ⟨g,k,none⟩:=by
 exact asO
theorem D7 {g:Nat}:∀(vs:List Value) (w:World) (o:Nat),(∀j,j < vs.length->∃v,w.cell? ⟨g,o+j,none⟩=some v)->∀j,j < vs.length->(GR.setW w g o vs).cell? ⟨g,o+j,none⟩=vs[j]?:=by
 intro vs;induction vs with
 |nil=>intro w o _ j hj;simp at hj
 |cons v vs ih=>
  intro w o h j hj
  cases j with
  |zero=>
   obtain⟨v0,hv0⟩:=h 0 Aac
   rw [Nat.add_zero] at hv0 ⊢
   refine(tH vs (w.setCell ⟨g,o,none⟩ v) (o+1) Aaa).trans ?_
   rw [World.cell?_setCell_same _ _ _ hv0]
   rfl
  |succ j=>
   have h2:=ih (w.setCell ⟨g,o,none⟩ v) (o+1) (λj' hj'=>by
    obtain⟨v1,hv1⟩:=h (j'+1) Ach
    refine⟨v1,(World.cell?_setCell_other _ _ _ _ (by simp<;>omega)).trans ?_⟩
    rw [<-hv1,show o+1+j'=o+(j'+1) by omega]) j Aat
   rw [show o+1+j=o+(j+1) by omega] at h2
   exact h2
theorem NW {g k:Nat}:∀(vs:List Value) (w:World) (o:Nat),(GR.setW w g o vs).frozen? ⟨g,k,none⟩=w.frozen? ⟨g,k,none⟩:=by
 exact adS
theorem UN {g:Nat}:∀(vs:List Value) (w:World) (o:Nat),(GR.setW w g o vs).heap.size=w.heap.size:=by
 exact adW
theorem vK.set {w:World} {a:Option Addr} {g:Nat} {l:List Pu} (h:vK w a g l) (k:Nat) (x:Pu) (hk:k < l.length):vK (GR.setW w g (k*4) (fE x)) a g (l.set k x):=λi hi=>by
 have hi':i < l.length:=Aap
 obtain⟨e,hg,hc⟩:=h i hi';refine⟨e,by rw [UN];exact hg,λj hj=>⟨?_,by rw [NW];exact(hc j hj).2⟩⟩;by_cases hik:i=k
 .subst hik
  rw [D7 (fE x) w (i*4) (λj' hj'=>by
   have hj4:j' < 4:=by rw [aZ] at hj';exact hj'
   have h1:=(hc j' hj4).1
   rw [List.getElem?_eq_getElem (by rw [aZ];exact hj4)] at h1
   exact⟨_,h1⟩) j (by rw [aZ];exact hj)]
  simp
 .rw [tH (fE x) w (k*4) (by rw [aZ];omega),(hc j hj).1,List.getElem_set_ne Aaa]
theorem l03Copy (a:Option Addr) (cap:Nat) (l:List Pu) (w:World) (hl:l.length<=1048600) (hn:a=none->l.length=0/\cap=0) (ha:aH w a l):
 Calls Tryz.prog 114 #[.slice a l.length cap] w λe w'=>∃v,e= .returned v/\v≠ .slice none 0 0/\w'.ownsRow w.heap.size 143 4 v l.length (GR.flat fE l)/\aX w w':=by
 obtain⟨i0,hi,hz0,hz1,hz2⟩:=info_parts Du;open aqd in exact adr
theorem own_lower {w:World} {b b':Nat} {e:TypeId} {sz:Nat} {v:Value} {n:Nat} {xs:List Value} (h:w.ownsRow b e sz v n xs) (hb:b'<=b):w.ownsRow b' e sz v n xs:=by
 exact ad4
theorem M9 (a:Option Addr) (cap:Nat) (l:List Pu) (p:Pu) (n:Int) (w:World) (hl:l.length<=1048600) (hk:∀p∈l,p.k.size<=maxLen) (hn:a=none->l.length=0/\cap=0) (ha:aH w a l) (hno:iW l=false\/¬(1<=n/\n<=1000000000)):
 Calls Tryz.prog 173 #[.slice a l.length cap,zi p,.int .i64 n] w λe w'=>∃v,e= .returned (.tuple #[v,.bool false])/\v≠ .slice none 0 0/\w'.ownsRow w.heap.size 143 4 v l.length (GR.flat fE l)/\aX w w':=by
 have lS:=Hq (λw1 (h:aH w1 a l)=>nV a cap l w1 hl hk h);have Bf:=Hq (λw1 (h:aH w1 a l)=>l03Copy a cap l w1 hl hn h);have HA:=Hq ha;clear ha hk hn;obtain⟨pk,pm,pf,ps⟩:=p;go_enter Tryz.func173,Tryz.ntmps173
 go_wp2_with fail;refine(lS _ (GR.At.below HA (dM w _))).mono ?_;rintro e w1 ⟨rfl,hb1⟩;have HB1:=Hq ((dM w _).trans (hb1.mono (dM w _).size));clear hb1;cases hok:iW l with
 |false=>
  go_wp2_with fail
  refine(Bf _ (GR.At.below HA HB1)).mono ?_
  rintro e w2 ⟨v,rfl,hnn,hrow,hb2⟩
  have VW:=Hq hnn
  have HR:=Hq (own_lower hrow HB1.size)
  have HB2:=Hq (HB1.trans (hb2.mono HB1.size))
  clear hrow hb2 hnn
  go_wp2_with fail
  refine bodyPost_ret (v:= .tuple #[v,.bool false]) Acp rfl ⟨v,rfl,VW,HR,HB2⟩
 |true=>
  have hn2:decide (vR n 1 1000000000)=false:=decide_eq_false (by rcases hno with h|h;(rw [hok] at h;cases h);exact h)
  go_wp2_with fail
  refine(Qj _ _ _ _).mono ?_
  rintro e w3 ⟨rfl,rfl⟩
  rw [hn2]
  go_wp2_with fail
  refine(Bf _ (GR.At.below HA HB1)).mono ?_
  rintro e w2 ⟨v,rfl,hnn,hrow,hb2⟩
  have VW:=Hq hnn
  have HR:=Hq (own_lower hrow HB1.size)
  have HB2:=Hq (HB1.trans (hb2.mono HB1.size))
  clear hrow hb2 hnn
  go_wp2_with fail
  refine bodyPost_ret (v:= .tuple #[v,.bool false]) Acp rfl ⟨v,rfl,VW,HR,HB2⟩
theorem ZQ (f:Pu->Bool):∀(l:List Pu) (k:Nat),k<=l.length->(∀q∈l.take k,f q=true)->(∀h:k < l.length,f l[k]=false)->l.takeWhile f=l.take k/\l.dropWhile f=l.drop k:=by
 intro l;induction l with
 |nil=>intro k hk _ _;simp
 |cons x r ih=>
  intro k hk h1 h2
  cases k with
  |zero=>
   have hx:f x=false:=h2 Aac
   simp[hx]
  |succ k=>
   have hx:f x=true:=h1 x Aac
   obtain⟨g1,g2⟩:=ih k Aca (λq hq=>h1 q (by simp[hq])) (λh=>h2 Abi)
   simp[hx,g1,g2]
end Go.Proofs.YtacgbldlonoaaaaGreatDoor
