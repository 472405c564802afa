/- Parts. -/
import Derived.Test.YtacgbldlonoaaaaGreatDoorRr18
namespace Go.Proofs.YtacgbldlonoaaaaGreatDoor
set_option maxHeartbeats 4000000
set_option maxRecDepth 100000
open Go.RowKit
open Mth
theorem Ui (n:Nd) (A:bH) (w:World) (hz:fu n 1048600) (hp:dZ n=true) (ha:dK w A n):
 Calls Tryz.prog 55 #[fI n A] w (eP w (.bool (qO n))):=by
 have HA:=Hq ha;have HD:Hid (qO n=(decide (n.out.length<=40)&&gQ (tX n) (λs t=>iA s.i t.i) n.out)):=rfl;have vM:=Hq (λk h=>nR (tX n) (λs t=>iA s.i t.i) n.out k h);have jO:=Hq (λk h=>xM (tX n) (λs=>s.i) 0 (λx=>Sc) n.out k h);have wZ:=Hq (λk h=>rX (λs:kC=>s.i) 0 n.out k h);have Z5:=Hq (λk (h:gQ (tX n) (λs t=>iA s.i t.i) (n.out.take k)=true)=>zC (key:=λs=>s.i) (y0:=0) (λx=>Sc) h);have QY:=Hq (λs=>show tX n s=(decide (1<=s.i/\s.i<=n.next - 1)&&dV n s.t&&keyOk s.k.data.toList&&fD s.n) from rfl)
 have OY:Hid (∀x w1,aX w w1->Calls Tryz.prog 130 #[fI n A,.int .i64 x] w1 (eP w1 (.bool (dV n x)))):=λx w1 hb=>by
  have h:=MC n A x w1 hz.k (ha.below hb).k
  rw [near_same hp] at h
  exact h
 have hlo:=hz.o;have kE:=Hq (heap_alloc_new w (.cells (dH n A) 30));generalize qO n=TT at *;generalize tX n=KB at *;generalize dV n=NN at *;clear ha hz hp;open akI in exact zB
theorem Qe (n:Nd) (A:bH) (w:World) (hz:fu n 1048600) (ha:dK w A n):
 Calls Tryz.prog 57 #[fI n A] w (eP w (.bool (gP n))):=by
 have HA:=Hq ha;have HD:Hid (gP n=(pz n.old&&decide (n.reqs.length<=30)&&gQ (qU n) (λs t=>iA s.no t.no) n.reqs)):=rfl;have vM:=Hq (λk h=>nR (qU n) (λs t=>iA s.no t.no) n.reqs k h);have jO:=Hq (λk h=>xM (qU n) (λs=>s.no) n.old (λx=>Sj) n.reqs k h);have wZ:=Hq (λk h=>rX (λs:Rq=>s.no) n.old n.reqs k h);have Z5:=Hq (λk (h:gQ (qU n) (λs t=>iA s.no t.no) (n.reqs.take k)=true)=>zC (key:=λs=>s.no) (y0:=n.old) (λx=>Sj) h);have QY:=Hq (λs=>show qU n s=(decide (n.old+1<=s.no/\s.no<=1000000000)&&keyOk s.k.data.toList&&fD s.n&&decide (0<=s.s/\s.s<=2)) from rfl);have hlo:=hz.r;have kE:=Hq (heap_alloc_new w (.cells (dH n A) 30));generalize gP n=TT at *;generalize qU n=KB at *;clear ha hz;open akH in exact zB
theorem LZ (l:List Int):GR.flat aW l=l.map (Value.int .i64):=by
 induction l with
 |nil=>rfl
 |cons x l ih=>rw [GR.flat_cons,ih];rfl
theorem PU:∀(y:Int),∀u∈aW y,u.oneCell'=true:=by
 intro y u hu;simp only[aW,List.mem_cons,List.not_mem_nil,or_false] at hu;subst hu;rfl
theorem zD (a:Option Addr) (cap:Nat) (l:List Int) (w:World) (hl:l.length<=1048600) (ha:eu w a l):
 Calls Tryz.prog 45 #[.slice a l.length cap] w λe w'=>∃v,e= .returned v/\w'.ownsRow w.heap.size 3 1 v l.length (GR.flat aW l)/\aX w w':=by
 obtain⟨i0,hi,hz0,hz1,hz2⟩:=info_parts yc;have q22:∀(w:World) (a:Option Addr) (n c n' c':Nat),(binOp .eql 24 (.slice a n c) (.slice none n' c')).run Tryz.prog w= .ok (.bool a.isNone) w:=λw a n c n' c'=>Lib.run_eql_slice_nil w _ _ a n c n' c' Tryz.underlying24
 have hlit:(w.alloc (.cells #[] 3)).ownsRow w.heap.size 3 1 (.slice (some ⟨w.heap.size,0,none⟩) 0 0) 0 []:=World.ownsRow_lit (base:=w.heap.size) (e:=3) (size:=1) w #[] 0 (Nat.le_refl _) Aae rfl;cases a with
 |none=>
  have hl0:l=[]:=GR.none_nil ha
  subst hl0
  clear ha hlit
  go_enter Tryz.func45,Tryz.ntmps45
  go_wp2_with fail
  go_ret
  exact⟨_,rfl,World.ownsRow_nil _ _ _ _,Below.refl _ _⟩
 |some x=>
  have HN:=Hq (GR.At.news aQ Aaa (GR.At.below ha (aj w (.cells #[] 3))))
  clear ha
  go_enter Tryz.func45,Tryz.ntmps45
  go_wp2_with (at_builtin;refine wpList_append_own _ rfl _ _ 24 rfl w.heap.size 3 i0 (.int .i64 0) 1 8 Tryz.underlying24 hi hz0 hz1 hz2 rfl Aae _ 0 [] rfl hlit x l.length cap (GR.flat aW l) rfl ?c0 ?c1 ?c2 ?c3 ?c4 ?c5 ?_)
  case c0=>exact GR.flat_length aW 1 aQ l
  case c1=>exact HN
  case c2=>exact GR.flat_oneCell PU l
  case c3=>unfold maxLen;omega
  case c4=>omega
  case c5=>simp
  intro v' w1 hown' hgrow _
  have HO:=Hq (show w1.ownsRow w.heap.size 3 1 v' l.length (GR.flat aW l) by simpa using hown')
  have hb:aX w w1:=(aj w _).grown hgrow Aac (λk hk=>Abp)
  clear hown' hgrow hlit
  go_wp2
  go_ret
  exact⟨_,rfl,HO,hb⟩
theorem abx (B:Nat) (v:Value) (l:List Int) (w:World) (hl:l.length<=1048602) (hB:B<=w.heap.size) (h:w.ownsRow B 3 1 v l.length (GR.flat aW l)):
 Calls Tryz.prog 123 #[v] w λe w'=>e= .returned (.tuple #[])/\w'.ownsRow B 3 1 v l.length (GR.flat aW (U9 l))/\Below B w w':=by
 rw [LZ] at h ⊢;rcases h.2 with⟨rfl,hn⟩|⟨g,cap,cur,rfl,hg,hblk,h1,h2,h3,h4⟩
 .have hl0:l=[]:=List.eq_nil_of_length_eq_zero hn;subst hl0;refine(AnyM.slices_Sort_int_none Tryz.sortL none 0 w).mono ?_;rintro e w' ⟨rfl,rfl⟩;refine⟨rfl,?_,Below.refl _ _⟩;simpa [U9] using World.ownsRow_nil _ _ _ _
 .rw [Nat.mul_one] at h4;have hH:=holds_of_blockI hblk h4;refine(AnyM.slices_Sort_int Tryz.sortL g 0 cap l w hH (aA hblk) Aaa).mono ?_;rintro e w' ⟨rfl,n,os,rfl⟩;have hs:(U9 l).length=l.length:=oU l;have h5:=ownsRow_sortedI (n:=n) (os:=os) (ts:=U9 l) hs hg hblk h1 h2 h3;exact⟨rfl,h5,(Below.refl B w).grown (grownBy_sortedI _) hB (λk hk=>by cases hk;exact hg)⟩
theorem Dp (n:Nd) (A:bH) (w:World) (hl:n.kids.length<=1048600) (ha:eu w A.k n.kids):
 Calls Tryz.prog 46 #[fI n A] w λe w'=>∃v,e= .returned v/\w'.ownsRow w.heap.size 3 1 v (pQ n).length (GR.flat aW (U9 (pQ n)))/\aX w w':=by
 obtain⟨i0,hi,hz0,hz1,hz2⟩:=info_parts yc;have HC:=Hq (zD A.k A.ck n.kids (w.alloc (.cells (dH n A) 30)) hl (GR.At.below ha (aj w _)));have kE:=Hq (heap_alloc_new w (.cells (dH n A) 30));have HNB:Hid ((n.par= -1->pQ n=n.kids)/\(¬n.par= -1->pQ n=n.kids++[n.par])):=⟨λh=>by unfold pQ;rw [if_pos h,List.append_nil],λh=>by unfold pQ;rw [if_neg h]⟩;have hln:(pQ n).length<=1048602:=by unfold pQ;split<;>simp<;>omega
 generalize pQ n=NB at *;open akJ in exact zB
namespace Mth
theorem UL {l:List Sn} {F:List Int} {k:Nat} (hk:k < l.length) (hF:F.length=l.length) (h1:(l.take k).map (·.f)=F.take k) (h2:(l.take k).all uh=true) (h3:(l[k]).f=F[k]' Aaa) (h4:uh l[k]=true):
 (l.take (k+1)).map (·.f)=F.take (k+1)/\(l.take (k+1)).all uh=true:=by
 rw [List.take_succ_eq_append_getElem hk,List.take_succ_eq_append_getElem Aaa,List.map_append,h1,List.all_append,h2];simp[h3,h4]
theorem UJ {l:List Sn} {F:List Int} {k:Nat} (hk:k < l.length) (hF:F.length=l.length) (h3:¬(l[k]).f=F[k]' Aaa):¬l.map (·.f)=F:=by
 intro h;apply h3
 subst h;simp
theorem UK {l:List Sn} {k:Nat} (hk:k < l.length) (h4:uh l[k]=false):l.all uh=false:=by
 rw [List.all_eq_false];exact⟨l[k],List.getElem_mem hk,by rw [h4];simp⟩
end Mth
theorem aeR (s:Sn) (b:Option Addr) (c:Nat) (r:Bool) (wc:World) (hl:s.ids.length<=1048600) (ha:eu wc b s.ids) (hr:uh s=r):∀d os,Calls Tryz.prog 132 #[.agg #[.int .i64 s.f,.int .i64 s.l,.slice b s.ids.length c]] (Sort.grow (redrawn wc d) os) λe w''=>e= .returned (.bool r)/\∃p:Regrown,w''=Sort.grow (redrawn wc p.d) p.os:=λd os=>by
 rw [<-hr];exact Calls.regrown_of (MI s b c _ hl (GR.At.below ha (below_regrown wc d os)))
theorem Qf (n:Nd) (A:bH) (w:World) (hz:fu n 1048600) (hp:dZ n=true) (ha:dK w A n):
 Calls Tryz.prog 56 #[fI n A] w (eP w (.bool (nC n))):=by
 have HA:=Hq ha;have HD:=Hq (vH hp);have HSK:=Hq hz.sk;have HNB:=Hq (Dp n A (w.alloc (.cells (dH n A) 30)) hz.k (GR.At.below ha.k (aj w _)));have kE:=Hq (heap_alloc_new w (.cells (dH n A) 30));have hls:=hz.s;have hln:(pQ n).length<=1048602:=by have:=hz.k;unfold pQ;split<;>simp<;>omega
 have wZ:=Hq (oU (pQ n));generalize U9 (pQ n)=F at *;generalize (pQ n).length=NL at *;generalize nC n=TT at *;clear ha hz hp;open akL in exact zB
theorem wG (n:Nd) (A:bH) (w:World) (hz:fu n 1048600) (ha:dK w A n):
 Calls Tryz.prog 18 #[fI n A] w (eP w (.bool (dU n))):=by
 have KW:Hid (∀w1,aX w w1->Calls Tryz.prog 52 #[fI n A] w1 (eP w1 (.bool (dZ n)))):=λw1 hb=>by
  have h:=Qd n A w1 hz.k (ha.below hb).k
  rw [Qt] at h
  exact h
 have HPU:=Hq (λw1 (hb:aX w w1)=>rU A.p A.cp n.pu w1 hz.p (ha.below hb).p);have HOT:=Hq (λw1 (hb:aX w w1) (hp:dZ n=true)=>Ui n A w1 hz hp (ha.below hb));have HSE:=Hq (λw1 (hb:aX w w1) (hp:dZ n=true)=>Qf n A w1 hz hp (ha.below hb));have HRE:=Hq (λw1 (hb:aX w w1)=>Qe n A w1 hz (ha.below hb));have HD:Hid (dU n=(dZ n&&iW n.pu&&nC n&&fD n.next&&qO n&&gP n)):=rfl;have kE:=Hq (heap_alloc_new w (.cells (dH n A) 30));generalize dZ n=PL at *;generalize iW n.pu=PS at *;generalize nC n=TD at *;generalize qO n=OT at *;generalize gP n=RQ at *;generalize dU n=TT at *;clear ha hz;open akK in exact zB
abbrev gu:Array Value:=(fK 0 0 none 0 0 0 none 0 0 none 0 0 none 0 0 0 none 0 0)
end Go.Proofs.YtacgbldlonoaaaaGreatDoor
