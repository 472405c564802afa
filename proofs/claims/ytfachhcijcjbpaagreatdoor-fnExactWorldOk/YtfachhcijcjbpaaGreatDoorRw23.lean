/- Parts. -/
import Derived.Test.YtfachhcijcjbpaaGreatDoorRw20
import Derived.Test.YtfachhcijcjbpaaGreatDoorRw4
namespace Go.Proofs.YtfachhcijcjbpaaGreatDoor
open Go.Proofs.Tryz
set_option maxHeartbeats 4000000
set_option maxRecDepth 100000
open Go.RowKit
open Mth
theorem ac5 {w:World} {g:Nat} {a0 a1 a2 a3 a4 a5 a6 a7 a8 b0 b1 b2 b3 b4 b5 b6 b7 b8:Value} {t:TypeId} (h:w.heap[g]?=some (.cells #[a0,a1,a2,a3,a4,a5,a6,a7,a8] t (0,0))):
 (((((((((w.setCell ⟨g,0,none⟩ b0).setCell ⟨g,1,none⟩ b1).setCell ⟨g,2,none⟩ b2).setCell ⟨g,3,none⟩ b3).setCell ⟨g,4,none⟩ b4).setCell ⟨g,5,none⟩ b5).setCell ⟨g,6,none⟩ b6).setCell ⟨g,7,none⟩ b7).setCell ⟨g,8,none⟩ b8).heap[g]?=some (.cells #[b0,b1,b2,b3,b4,b5,b6,b7,b8] t (0,0)):=by
 exact aib
theorem UQ {w:World} {g:Nat} {b0 b1 b2 b3 b4 b5 b6 b7 b8:Value}:aC [g] w (((((((((w.setCell ⟨g,0,none⟩ b0).setCell ⟨g,1,none⟩ b1).setCell ⟨g,2,none⟩ b2).setCell ⟨g,3,none⟩ b3).setCell ⟨g,4,none⟩ b4).setCell ⟨g,5,none⟩ b5).setCell ⟨g,6,none⟩ b6).setCell ⟨g,7,none⟩ b7).setCell ⟨g,8,none⟩ b8):=
 ((((((((aC.set b0).trans (aC.set b1)).trans (aC.set b2)).trans (aC.set b3)).trans (aC.set b4)).trans (aC.set b5)).trans (aC.set b6)).trans (aC.set b7)).trans (aC.set b8)
theorem aeX (w:World) (a b:Obj):((w.alloc a).alloc b).heap[w.heap.size]?=some a/\((w.alloc a).alloc b).heap[w.heap.size+1]?=some b/\Below w.heap.size w ((w.alloc a).alloc b):=by
 exact ahK
structure TN (w W:World) (P R O:Obj) (rows:List (Nat×Obj)):Prop where
 par:W.heap[w.heap.size]?=some P
 res:W.heap[w.heap.size+1]?=some R
 out:W.heap[w.heap.size+1+1]?=some O
 rows:∀x∈rows,w.heap.size+1+1 < x.1/\W.heap[x.1]?=some x.2
 bel:aG w W
theorem TN.step {w W W':World} {P R O:Obj} {rows:List (Nat×Obj)} (h:TN w W P R O rows) (hb:aG W W'):TN w W' P R O rows:=
 ⟨aj h.par hb,aj h.res hb,aj h.out hb,λx hx=>⟨(h.rows x hx).1,aj (h.rows x hx).2 hb⟩,h.bel.trans (hb.mono h.bel.size)⟩
theorem TN.add {w W:World} {P R O:Obj} {rows:List (Nat×Obj)} (h:TN w W P R O rows) (more:List (Nat×Obj)) (hm:∀x∈more,w.heap.size+1+1 < x.1/\W.heap[x.1]?=some x.2):TN w W P R O (rows++more):=
 ⟨h.par,h.res,h.out,λx hx=>by rcases aE0.1 hx with hx|hx;exact h.rows x hx;exact hm x hx,h.bel⟩
theorem TN.put {w W:World} {P R:Obj} {cs:Array Value} {t:TypeId} {rows:List (Nat×Obj)} (h:TN w W P R (.cells cs t (0,0)) rows) (i:Nat) (v:Value):TN w (W.setCell ⟨w.heap.size+1+1,i,none⟩ v) P R (.cells (cs.setIfInBounds i v) t (0,0)) rows:=
 ⟨iW h.par Aaa,iW h.res Aaa,aT h.out i v,λx hx=>⟨(h.rows x hx).1,iW (h.rows x hx).2 (by have:=(h.rows x hx).1;omega)⟩,h.bel.setCell (p:=⟨w.heap.size+1+1,i,none⟩) (by show w.heap.size<=w.heap.size+1+1;omega) v⟩
theorem fU.of {w:World} {g:Nat} {T:List R3} {I:Nat->Nat} {l:List Sn} (hT:Gf w g T) (hl:T.length=l.length) (h:∀i,i < l.length->T[i]?=some ⟨(l.getD i default).f,(l.getD i default).l,.slice (some ⟨I i,0,none⟩) (l.getD i default).ids.length (l.getD i default).ids.length⟩/\kQ w (I i) (l.getD i default).ids):fU w (some ⟨g,0,none⟩) g I l:=by
 refine⟨T,GR.W.of_blk bf hT,hl,λi hi=>?_⟩;have hd:l.getD i default=l[i]:=by rw [aE7,aEB hi];rfl
 obtain⟨h1,h2⟩:=h i hi;rw [hd] at h1 h2;exact⟨_,_,h1,GR.W.of_blk aU h2⟩
theorem afe {I:Nat->Nat} {l:List Sn} (h:∀i j,i < j->j < l.length->I i < I j):(uo I l).Nodup:=by
 have key:∀m,m<=l.length->((List.range m).flatMap λi=>fp (I i) (l.getD i default).ids).Nodup:=by
  intro m;induction m with
  |zero=>intro _;simp
  |succ m ih=>
   intro hm;rw [aGm,List.flatMap_append,aFY];refine⟨ih Aaa,by simpa using jh _ _,?_⟩;intro a ha b hb;rw [aFQ] at ha;obtain⟨i,hi,hx⟩:=ha;have hi':=aFA.1 hi;have hb':b∈fp (I m) (l.getD m default).ids:=by simpa using hb
   rw [(dz hx).1,(dz hb').1];have:=h i m hi' Aaa;omega
 exact key l.length (aEx _)
theorem adO (n:Nd) (A:bg) (w:World) (hz:eH n 1048576) (ha:bX w A n):
 Calls prog 69 #[gP n A] w λe w'=>∃A',e= .returned (gP n A')/\∃G,rT w' A' G n/\G.Sep n w.heap.size w'.heap.size/\aG w w':=by
 have HZ:=Hq hz;have HA:=Hq ha;clear ha hz;have OZ:=Hq (λW (hb:aG w W)=>Vs A.k A.ck n.kids W HZ.k (HA.below hb).k);have HTP:=Hq (λW (hb:aG w W)=>adP A.p A.cp n.pu W HZ.p (HA.below hb).p);have Bq:=Hq (λW (hb:aG w W)=>af7 A.o A.co n.out W HZ.o (HA.below hb).o);have HTS:=Hq (λW (hb:aG w W)=>af6 A.s A.cs n.seen W HZ.s HZ.sk (HA.below hb).s);have HTR:=Hq (λW (hb:aG w W)=>alM A.r A.cr n.reqs W HZ.r (HA.below hb).r);clear HA HZ;open aoM in exact xG
theorem abH (n:Nd) (A A':bg) (w:World) (hz:eH n 1048600) (ha:bX w A n) (hb:bX w A' n):
 Calls prog 80 #[gP n A,gP n A'] w (dK w (.bool true)):=by
 have HK:=Hq (λw1 (h:aG w w1)=>Uh A.k A'.k A.ck A'.ck n.kids w1 hz.k (ha.below h).k (hb.below h).k);have HP:=Hq (λw1 (h:aG w w1)=>abI A.p A'.p A.cp A'.cp n.pu w1 hz.p (ha.below h).p (hb.below h).p);have HO:=Hq (λw1 (h:aG w w1)=>afb A.o A'.o A.co A'.co n.out w1 hz.o (ha.below h).o (hb.below h).o);have HS:=Hq (λw1 (h:aG w w1)=>afa A.s A'.s A.cs A'.cs n.seen w1 hz.s hz.sk (ha.below h).s (hb.below h).s);have HR:=Hq (λw1 (h:aG w w1)=>akC A.r A'.r A.cr A'.cr n.reqs w1 hz.r (ha.below h).r (hb.below h).r);obtain⟨hA0,hB0,hL0⟩:=aeX w (.cells (dR n A) 53) (.cells (dR n A') 53);have SA:=Hq hA0;have HB0:=Hq hB0;have jC:=Hq hL0;clear ha hb hz hA0 hB0 hL0;open aoL in exact xG
theorem Xx (n:Nd) (A:bg) (z:Int) (w:World) (g0:0<=z) (g1:z<=1048576) (hz:eH n maxLen) (ha:bX w A n):
 Calls prog 52 #[gP n A,.int .i64 z] w λe w'=>∃r:Int,e= .returned (.int .i64 r)/\aG w w'/\(r= -1\/0<=r/\r<=1048576/\eH n 1048576):=by
 have HK:=Hq (λz w1 (h0:0<=z) (h1:z<=1048576)=>Vq A.k A.ck n.kids z w1 h0 h1 hz.k);have HP:=Hq (λz w1 (hb:aG w w1) (h0:0<=z) (h1:z<=1048576)=>ZI A.p A.cp n.pu z w1 h0 h1 hz.p hz.pk (ha.below hb).p);have HO:=Hq (λz w1 (hb:aG w w1) (h0:0<=z) (h1:z<=1048576)=>af0 A.o A.co n.out z w1 h0 h1 hz.o hz.ok (ha.below hb).o);have HS:=Hq (λz w1 (hb:aG w w1) (h0:0<=z) (h1:z<=1048576)=>afZ A.s A.cs n.seen z w1 h0 h1 hz.s hz.sk (ha.below hb).s);have HR:=Hq (λz w1 (hb:aG w w1) (h0:0<=z) (h1:z<=1048576)=>alG A.r A.cr n.reqs z w1 h0 h1 hz.r hz.rk (ha.below hb).r);have HQ:Hid ((n.kids.length<=1048576)->(n.pu.length<=1048576/\∀p∈n.pu,p.k.size<=1048576)->(n.out.length<=1048576/\∀p∈n.out,p.k.size<=1048576)->(n.seen.length<=1048576/\∀p∈n.seen,p.ids.length<=1048576)->(n.reqs.length<=1048576/\∀p∈n.reqs,p.k.size<=1048576)->eH n 1048576):=λh1 h2 h3 h4 h5=>⟨h1,h2.1,h3.1,h4.1,h5.1,h2.2,h3.2,h4.2,h5.2⟩
 have jL:=Hq (aEu w (.cells (dR n A) 79));have hkl:=hz.k;clear ha hz;generalize eH n 1048576=NZ at *;open aoN in exact xG
open Go.RowKit Go.Maps
abbrev FD (x:Int):Lit:= .int .i64 x
theorem afs {a b:Int} (h:a≠b):FD a≠FD b:=λe=>h (by injection e)
theorem rH:Keyed prog 3:=int_keyed underlying3
theorem Qz (x:Int) (h0:0<=x) (h1:x<=1000000000):keyOf prog 3 (.int .i64 x)=some (FD x):=keyOf_int_mk underlying3 (by simp only[Lit.wf,aED,aES];constructor<;>(first|omega|(unfold IntKind.min;simp;omega)|(unfold IntKind.max;simp;omega)|(simp[IntKind.min,IntKind.max,IntKind.bits,IntKind.signed];omega)))
theorem ad8 (w:World):(zeroValue 155).run prog w= .ok (.agg #[]) w:=Aab
def fq (w:World) (mb n:Nat) (l:List Int):Prop:=∃D:DataW Unit,w.ownsMap prog 3 unitElem mb n D/\∀x,Maps.has D (FD x)=decide (x∈l)
theorem fq.made (w:World):fq (w.alloc (.map #[] 0)) w.heap.size 0 []:=⟨_,World.ownsMap_made w _ _ _,λx=>by simp[Maps.has]⟩
theorem fq.lt {w:World} {mb n:Nat} {l:List Int} (h:fq w mb n l):mb < w.heap.size:=h.choose_spec.1.lt
theorem fq.kept {w w':World} {mb n:Nat} {l:List Int} (h:fq w mb n l) (hb:w'.heap[mb]?=w.heap[mb]?):fq w' mb n l:=by
 exact ai9
theorem fq.mono {w:World} {mb n n':Nat} {l:List Int} (h:fq w mb n l) (hn:n<=n'):fq w mb n' l:=by
 obtain⟨D,h1,h2⟩:=h;exact⟨D,h1.mono hn,h2⟩
theorem fq.same {w:World} {mb n:Nat} {l l':List Int} (h:fq w mb n l) (he:∀x,x∈l↔x∈l'):fq w mb n l':=by
 obtain⟨D,h1,h2⟩:=h;exact⟨D,h1,λx=>by rw [h2 x,decide_eq_decide];exact he x⟩
theorem fq.look {w:World} {mb n:Nat} {l:List Int} (h:fq w mb n l) (x:Int) (h0:0<=x) (h1:x<=1000000000):
 (Instr.lookup 341 (.map (some mb)) (.int .i64 x) true).run prog w= .ok (.tuple #[.agg #[],.bool (decide (x∈l))]) w:=by
 obtain⟨D,hown,ha⟩:=h;obtain⟨v,ps,hrun,hv⟩:=hown.look_ok rH underlying341 (ad8 w) unitElem_mk (Qz x h0 h1);rw [hrun,ha x,(unitElem_inv hv).1]
theorem fq.store {w:World} {mb n:Nat} {l:List Int} (h:fq w mb n l) (x:Int) (h0:0<=x) (h1:x<=1000000000) (hn:n < maxLen):
 ∃w',(Instr.mapUpdate 341 (.map (some mb)) (.int .i64 x) (.agg #[])).run prog w= .ok () w'/\fq w' mb (n+1) (x::l)/\Keeps mb w w':=by
 obtain⟨D,hown,ha⟩:=h;obtain⟨w',hrun,g1,g2⟩:=hown.store rH underlying341 hn (Qz x h0 h1) unitElem_mk;refine⟨w',hrun,⟨_,g1,λy=>?_⟩,og g2⟩;by_cases e:y=x
 .subst e;rw [has_put_same hown.isMap (show WideAt.IsKeyLit (FD y) from trivial)];simp
 .rw [has_put_other (afs e),ha y];simp[e]
theorem fq.keys {w:World} {mb n:Nat} {D:DataW Unit} {l:List Int} (hown:w.ownsMap prog 3 unitElem mb n D) (ha:∀x,Maps.has D (FD x)=decide (x∈l)) (hl:l.Nodup):l.Perm (intKeys D):=by
 obtain⟨es,hD,hpw,_⟩:=hown.entries rH;obtain⟨es',hD',hko⟩:=hown.keysOf;obtain rfl:es=es':=by rw [hD] at hD';simpa using hD'
 subst hD;exact perm_intKeys hpw (λp hp=>by obtain⟨v,hv⟩:=hko p hp;obtain⟨x,_,hx,_⟩:=Maps.keyOf_i64 underlying3 hv;exact⟨x,hx⟩) hl (λx=>by rw [ha x];simp)
theorem KU {w:World} {mb n:Nat} {D:DataW Unit} (hown:w.ownsMap prog 3 unitElem mb n D):Maps.size D=(intKeys D).length:=by
 obtain⟨es,hD,_⟩:=hown.entries rH;subst hD;simp[Maps.size,intKeys]
theorem fq.len {w:World} {mb n:Nat} {l:List Int} (h:fq w mb n l) (hl:l.Nodup) (ty:TypeId):(Builtin.len_ #[341] ty #[.map (some mb)]).run prog w= .ok (.int .i64 l.length) w:=by
 obtain⟨D,hown,ha⟩:=h;rw [hown.len underlying341 ty,KU hown,(fq.keys hown ha hl).length_eq]
theorem alo (B sb mb:Nat) (low x:Int) (w:World) (h1:w.heap[B]?=some (.cells #[.pointer (some ⟨sb,0,none⟩)] 304 (0,0))) (h2:w.heap[sb]?=some (.cells #[.int .i64 low,.map (some mb)] 343 (0,0))):
 Calls prog 283 #[.int .i64 x,.agg #[],.pointer (some ⟨B,0,none⟩)] w (dK w (.bool (decide (x < low)))):=by
 have hB:=ay h1;have hS:=ay h2;have c0:w.cell? ⟨B,0,none⟩=some (.pointer (some ⟨sb,0,none⟩)):=aEz w B 0 _ _ (0,0) h1;have c1:w.cell? ⟨sb,0,none⟩=some (.int .i64 low):=aEz w sb 0 _ _ (0,0) h2;clear h1 h2;go_in
 exact Wy
def Ao (low:Int):Lit->DataW Unit->Bool
 | .int _ x,_=>decide (x < low)
 |_,_=>false
theorem Yq {w:World} {mb n:Nat} {l:List Int} {es:List (Lit×DataW Unit)} (low:Int) (hown:w.ownsMap prog 3 unitElem mb n (.map es)) (ha:∀x,Maps.has (.map es) (FD x)=decide (x∈l)) (x:Int):
 Maps.has (Lib.deleteFuncD (Ao low) (.map es)) (FD x)=decide (x∈l.filter (λx=>decide (low<=x))):=by
 obtain⟨es',hD',hko⟩:=hown.keysOf;obtain rfl:es=es':=by simpa using hD'
 have hx:=ha x;rw [aFI,aE3,has_eq,List.any_eq_true] at hx;show Maps.has (.map (es.filter λp=> !Ao low p.1 p.2)) (FD x)=_
 rw [aFI,aE3,has_eq,List.any_eq_true,aGn,<-hx,aE3];constructor
 .rintro⟨p,hp,hs⟩;obtain⟨hp1,hp2⟩:=aGn.1 hp;refine⟨⟨p,hp1,hs⟩,?_⟩;obtain⟨v,hv⟩:=hko p hp1;obtain⟨y,_,hy,_⟩:=Maps.keyOf_i64 underlying3 hv;rw [hy] at hs hp2;have e:y=x:=by simpa [Lit.sameKey] using hs
  subst e;simpa [Ao] using hp2
 .rintro⟨⟨p,hp1,hs⟩,hle⟩;obtain⟨v,hv⟩:=hko p hp1;obtain⟨y,_,hy,_⟩:=Maps.keyOf_i64 underlying3 hv;have hs':=hs;rw [hy] at hs';have e:y=x:=by simpa [Lit.sameKey] using hs'
  grind [Ao]
theorem FW {w w':World} {b:Nat} (g:w.grownBy w' (some b)):_root_.Go.Proofs.YtfachhcijcjbpaaGreatDoor.Keeps b w w':=⟨g.os,g.tape,g.output,g.size,λk hk hne=>g.block k hk (λe=>hne (aFe e))⟩
theorem gG {w w':World} (h:aG w w') (row:Option Nat):w.grownBy w' row:=⟨h.os,h.tape,h.output,h.size,λk hk _=>h.block k hk⟩
theorem akB (B sb mb n:Nat) (low:Int) (l:List Int) (w:World) (h1:w.heap[B]?=some (.cells #[.pointer (some ⟨sb,0,none⟩)] 304 (0,0))) (h2:w.heap[sb]?=some (.cells #[.int .i64 low,.map (some mb)] 343 (0,0))) (hs:fq w mb n l):
 Calls prog 282 #[.map (some mb),.func (.func 283) #[] #[.pointer (some ⟨B,0,none⟩)]] w λe w'=>e= .returned (.tuple #[])/\fq w' mb n (l.filter (λx=>decide (low<=x)))/\Keeps mb w w':=by
 obtain⟨D,hown,ha⟩:=hs;obtain⟨es0,rfl,hap,hkeys⟩:=hown.entries rH;have hmap:∃es clock,w.heap[mb]?=some (.map es clock):=by obtain⟨es,clock,hb,_⟩:=hown;exact⟨es,clock,hb⟩
 obtain⟨es1,clock1,hmb⟩:=hmap;have hBm:B≠mb:=λe=>by rw [e,hmb] at h1;cases h1
 have hSm:sb≠mb:=λe=>by rw [e,hmb] at h2;cases h2
 have HA:=Hq (Yq (n:=n) low hown ha);have HD:=Hq (fun(W:World) (x:Int) (hg:w.grownBy W (some mb))=>alo B sb mb low x W ((hg.block B (ay h1) (by simpa using hBm)).trans h1) ((hg.block sb (ay h2) (by simpa using hSm)).trans h2));clear h1 h2 hmb hBm hSm ha;go_in
 go_wp2_with (first
  |(at_range;refine wpList_range_own _ rfl _ 341 rfl 3 155 rH underlying341 unitElem mb n _ rfl hown ?_;intro w0 hrg0 hg0 hs0)
  |go_in)
 go_frame
 go_loopw [8] (λ_ wr=>∃(left:Lit->Bool) (cnt:Nat),wr.ranges prog 3 unitElem mb w.heap.size n (Fk (Ao low) es0 left) left cnt/\w.grownBy wr (some mb))
  (λ_ wr=>wr.rangeLeft mb w.heap.size)
 case atStart=>exact⟨_,_,by rw [Fk_start hkeys];exact hrg0,hg0.but _⟩
 case round=>
  obtain⟨left,cnt,hrg,hgw⟩:=hrel
  go_wp2_with (first
   |(at_next;refine wpList_next_ranges _ rfl _ rfl 3 rH unitElem (Value.int .i64) (λ_:Unit=>Value.agg #[]) (λkey kl hk=>by obtain⟨x,hx,_⟩:=Maps.keyOf_i64 underlying3 hk;exact⟨x,hx⟩) (λv y hv=>⟨(),(unitElem_inv hv).1⟩) mb w.heap.size n _ _ _ rfl hrg ?_ ?_)
   |go_in)
  ·
   intro _ hl0
   go_wp2_with fail
   go_end0
   refine⟨rfl,⟨_,?_,HA⟩,FW hgw⟩
   rw [<-Fk_end hl0]
   exact hrg.owns
  ·
   intro x kl yd yp w1 cnt1 hkey hlx hv hat hrg1 hlt hg1 hs1 hen
   obtain⟨x',ex,rfl,_⟩:=Maps.keyOf_i64 underlying3 hkey
   cases ex
   have hgw1:=hgw.andThen hg1 (λj hj=>by cases hj;exact Or.inl (aEx _))
   have hc:=Hq (HD (w1.alloc (.cells #[] 155)) x (hgw1.andThen (World.grownBy_alloc w1 _ none) (λj hj=>by cases hj)))
   have ays:=hrg1.alloc (.cells #[] 155)
   have hgA:=hgw1.andThen (World.grownBy_alloc w1 (.cells #[] 155) none) (λj hj=>by cases hj)
   by_cases hx:x < low
   .have hp:Ao low (FD x) yd=true:=by simpa [Ao] using hx
    have hq:decide (x < low)=true:=Aad
    go_wp2_with (first
     |(go_at_call 283;refine hc.mono ?_;rintro e w2 ⟨rfl,hb2⟩;have hrg2:=ays.kept (gG hb2 none) Aac Aac)
     |(at_delete;refine wpList_delete_ranges _ rfl _ _ 341 3 rfl 155 rH underlying341 unitElem mb w.heap.size n _ _ _ rfl hrg2 _ _ rfl hkey ?_;intro w3 cnt3 hrg3 hle hturn;go_frame)
     |go_in)
    rw [strike_twice] at hrg3;go_roundw
    case rel=>exact⟨_,cnt3,by rw [<-Fk_struck hap (rH.key hkey) hlx hp hat];exact hrg3,(hgA.andThen (gG hb2 none) (λj hj=>by cases hj)).andThen hturn.grown (λj hj=>by cases hj;exact Or.inr rfl)⟩
    case measure=>rw [hrg3.left_eq,hrg.left_eq];omega
   .have hp:Ao low (FD x) yd=false:=by simpa [Ao] using hx
    have hq:decide (x < low)=false:=Aad
    go_wp2_with (first
     |(go_at_call 283;refine hc.mono ?_;rintro e w2 ⟨rfl,hb2⟩;have hrg2:=ays.kept (gG hb2 none) Aac Aac)
     |go_in)
    go_roundw
    case rel=>exact⟨_,cnt1,by rw [<-Fk_stays hap (rH.key hkey) hlx hp hat];exact hrg2,hgA.andThen (gG hb2 none) (λj hj=>by cases hj)⟩
    case measure=>rw [hrg2.left_eq,hrg.left_eq];exact hlt
abbrev kR (w:World) (sb mb:Nat) (low:Int):Prop:=w.heap[sb]?=some (.cells #[.int .i64 low,.map (some mb)] 343 (0,0))
theorem aC.of_keeps {g:Nat} {w w':World} (h:Keeps g w w'):aC [g] w w':=⟨h.os,h.tape,h.output,h.size,λk hk hg=>h.block k hk (by simpa using hg)⟩
theorem fq.ne {w:World} {sb mb n:Nat} {low:Int} {l:List Int} (h:fq w mb n l) (hs:kR w sb mb low):sb≠mb:=λe=>by
 obtain⟨D,⟨es,clock,hb,_⟩,_⟩:=h;unfold kR at hs;rw [e,hb] at hs;cases hs
theorem fq.far {w:World} {g mb n:Nat} {l:List Int} {cs:Array Value} {t:TypeId} {q:Nat×Nat} (h:fq w mb n l) (hs:w.heap[g]?=some (.cells cs t q)):g≠mb:=λe=>by
 obtain⟨D,⟨es,clock,hb,_⟩,_⟩:=h;rw [e,hb] at hs;cases hs
theorem akP (sb mb n:Nat) (low x:Int) (l:List Int) (w:World) (h0:0<=x) (h1:x<=1000000000) (hb:kR w sb mb low) (hs:fq w mb n l):
 Calls prog 255 #[.pointer (some ⟨sb,0,none⟩),.int .i64 x] w (dK w (.bool (decide (x < low)||decide (x∈l)))):=by
 have hsl:=ay hb;obtain⟨⟨m0,m1⟩,_⟩:=lY hb;have hrun:=hs.look x h0 h1;clear hb hs;cases hm:decide (x∈l)
 .rw [hm] at hrun;go_in
  exact Wy
 .rw [hm] at hrun;go_in
  exact Wy
theorem afC (sb mb n:Nat) (ayK low L:Int) (l:List Int) (w:World) (hL:max ayK low=L) (hb:kR w sb mb ayK) (hs:fq w mb n l):
 Calls prog 254 #[.pointer (some ⟨sb,0,none⟩),.int .i64 low] w λe w'=>e= .returned (.tuple #[])/\kR w' sb mb L/\fq w' mb n (l.filter (λx=>decide (L<=x)))/\aC [sb,mb] w w':=by
 have hsl:=ay hb;have hml:=hs.lt;have hne:=hs.ne hb;have HB:=Hq hb;have HS:=Hq hs;obtain⟨⟨m0,m1⟩,f0,f1⟩:=lY hb;have HL:=Hq hL;clear hb hs hL;go_in
 go_upto_region 2 with fail;go_region
 rw [ah HL];go_upto_region 2 with fail;refine wp_at (λW hW=>?_);have hsz:(w.setCell ⟨sb,0,none⟩ (.int .i64 L)).heap.size=w.heap.size:=Aaq
 have e1:W.heap[w.heap.size]?=some (.cells #[.pointer (some ⟨sb,0,none⟩)] 304 (0,0)):=by
  rw [hW,<-hsz];exact aEu _ _
 have e2:kR W sb mb L:=by
  have h1:(w.setCell ⟨sb,0,none⟩ (.int .i64 L)).heap[sb]?=some (.cells #[.int .i64 L,.map (some mb)] 343 (0,0)):=aT HB 0 (.int .i64 L);rw [hW];exact(aEI _ _ _ (by rw [hsz];exact hsl)).trans h1
 have e3:fq W mb n l:=HS.kept (by
  rw [hW]
  exact(aEI _ _ _ (by rw [hsz];exact hml)).trans (aEU _ _ _ _ hne.symm))
 have e4:aC [sb,mb] w W:=by
  rw [hW];refine⟨rfl,rfl,rfl,Aaq,λk hk hkn=>?_⟩;have h1:k≠sb:=λe=>hkn (by simp[e])
  exact(aEI _ _ _ (by rw [hsz];exact hk)).trans (aEU _ _ _ _ h1)
 have m0:W.cell? ⟨w.heap.size,0,none⟩=some (.pointer (some ⟨sb,0,none⟩)):=aEz W _ 0 _ _ (0,0) e1;obtain⟨⟨m1,m2⟩,_⟩:=lY e2;have hwl:=ay e1;have hsl2:=ay e2;have HD:=Hq (akB w.heap.size sb mb n L l W e1 e2 e3);have E2:=Hq e2;have E4:=Hq e4;clear hW e1 e2 e3 e4 HB HS;go_wp2_with fail;refine HD.mono ?_;rintro e w' ⟨rfl,g1,g2⟩;have G1:=Hq g1;have G2:=Hq g2;clear g1 g2 HD m0 m1 m2;go_wp2_with fail;refine aGk (v:= .tuple #[]) (by simp[results,results254,go_sem]) rfl ⟨rfl,?_,G1,E4.trans ((aC.of_keeps G2).mono Aac)⟩;unfold kR;rw [(ah G2).block sb hsl2 hne];exact E2
theorem setOf (f low:Int) (a:Option Addr) (cap:Nat) (ids:List Int) (w:World) (hl:ids.length<=40) (hb:∀x∈ids,0<=x/\x<=1000000000) (ha:aK w a ids):
 Calls prog 253 #[.agg #[.int .i64 f,.int .i64 low,.slice a ids.length cap]] w λe w'=>∃sb mb,e= .returned (.pointer (some ⟨sb,0,none⟩))/\w.heap.size<=sb/\w.heap.size<=mb/\kR w' sb mb low/\fq w' mb ids.length ids/\aG w w':=by
 have hmm:= @run_makeMap prog;have HA:=Hq ha;have HBD:=Hq hb;clear ha hb;go_in
 go_wp2_with fail;go_loopw [14] (λi wr=>∃k:Nat,k<=ids.length/\i= .int .i64 k/\kR wr (w.heap.size+1+1) (w.heap.size+1) low/\fq wr (w.heap.size+1) k (ids.take k)/\aG w wr) (λi _=>ids.length - (intOf i).toNat)
 case atStart=>
  have hz:∀(u:World) (o:Obj),(u.alloc o).heap.size=u.heap.size+1:=λu o=>by simp
  have hM:=fq.made (w.alloc (.cells #[.int .i64 f,.int .i64 low,.slice a ids.length cap] 144));have hS:=aEu ((w.alloc (.cells #[.int .i64 f,.int .i64 low,.slice a ids.length cap] 144)).alloc (.map #[] 0)) (.cells #[.int .i64 low,.map (some (w.heap.size+1))] 343);rw [hz] at hM;rw [hz,hz] at hS;refine⟨0,aEN _,rfl,hS,?_,?_⟩
  .refine hM.kept ?_;exact aEI _ _ _ (by rw [hz,hz];omega)
  .exact((au w _).alloc (by rw [hz];omega) _).alloc (by rw [hz,hz];omega) _
 case round=>
  obtain⟨k,hk,rfl,hS,hI,hbw⟩:=hrel;have HS:=Hq hS;have HI:=Hq hI;have gK:=Hq hbw;obtain⟨⟨m0,m1⟩,_⟩:=lY hS;have hsl:=ay hS;clear hS hI hbw hmm;by_cases hlt:k < ids.length
  .obtain⟨g,off,rfl,hgw,q0⟩:=aK.one (GR.At.below HA gK) k hlt;have HB:=Hq (HBD ids[k] (aEL hlt));have HT:=Hq (show∀x,x∈ids[k]::ids.take k↔x∈ids.take (k+1) from λx=>by rw [aEF hlt,aET,aE0,aEM,or_comm]);generalize ids[k]=ik at *;obtain⟨w2,hrun,hI2,hK2⟩:=HI.store ik HB.1 HB.2 Aai;have HI2:=Hq hI2;have qE:=Hq hK2;clear hI2 hK2;go_wp2_with fail;go_roundw
   case rel=>
    refine⟨k+1,Aaa,Aaf,?_,HI2.same HT,?_⟩
    .unfold kR;rw [(ah qE).block _ hsl Aaa];exact HS
    .exact gK.trans ⟨qE.os,qE.tape,qE.output,qE.size,λj hj=>qE.block j (by have:=gK.size;omega) Aaa⟩
   case measure=>simp[intOf];omega
  .have hke:k=ids.length:=Aaa
   subst hke;have hnlt:decide ((ids.length:Int) < (ids.length:Int))=false:=Aac
   go_wp2_with fail;go_ret;refine⟨_,_,rfl,Aaa,Aaa,HS,?_,gK⟩;have h:=ah HI;rwa [aEW] at h
theorem Rk:∀(vs pre xs:List Value),xs.length=vs.length->GR.setRun (pre++xs) pre.length vs=pre++vs:=by
 intro vs;induction vs with
 |nil=>intro pre xs h;rw [aEZ h];rfl
 |cons v vs ih=>
  intro pre xs h;cases xs with
  |nil=>simp at h
  |cons x xs=>
   show GR.setRun ((pre++x::xs).set pre.length v) (pre.length+1) vs=pre++v::vs
   have e:(pre++x::xs).set pre.length v=(pre++[v])++xs:=Aac
   have h2:=ih (pre++[v]) xs Abk;rw [e];simpa using h2
theorem Zt {w:World} {g:Nat} {t:TypeId} (vs xs:List Value) (hl:xs.length=vs.length) (h:w.heap[g]?=some (.cells xs.toArray t (0,0))):(GR.setW w g 0 vs).heap[g]?=some (.cells vs.toArray t (0,0)):=by
 have h1:=GR.setW_blk vs (o:=0) h;have h2:=Rk vs [] xs hl;simp only[aFN,List.length_nil] at h2;rw [h2] at h1;exact h1
section
variable {P:Program} {ops:Array Oper} {Q:Exit->Act->World->Prop} {md:Region.Mode} {E r:Nat}
theorem alB (r:Nat):XM (aC [r]):=⟨aC.of_below,aC.trans⟩
abbrev rP (P:Program) (md:Region.Mode) (ops:Array Oper) (Q:Exit->Act->World->Prop) (E r:Nat):Nat->Array Bool->Act->World->Prop:=ig P md ops Q E (aC [r])
theorem PE {r:Nat} {w:World} {g i:Nat} {v:Value} (h:w.cell? ⟨g,i,none⟩=some v) (hg:g≠r):∀p:But (aC [r]) w,p.x.cell? ⟨g,i,none⟩=some v:=λp=>(aE6 (w:=w) (p.h.block g (aFC w _ h) (by simpa using hg))).trans h
theorem ajA (i n:Nat) {oi:Oper} {fuel:Nat} {listed:Array Bool} {a:Act} {w:World} (hi:ops[i]?=some oi) (hs:Region.noSelect ops=true) (hf:Region.free md ops listed i=true) (hr:(Region.ready md ops listed).contains i=true)
 (hcl:oW md ops listed=true) (hE:(WQ md ops E n).contains i=true)
 (hQ:∀v c a w,Q (.panic c) (a.put oi.dst v) w->Q (.panic c) a w)
 (h:∀K:Act->Prop,(∀a',rP P md ops Q E r fuel (listed.setIfInBounds i true) a' w->K a')->if Region.wanted oi (yielded ops a.tmps) then∃v,(∀p:But (aC [r]) w,Oper.quietUpon P (Ge p.x) p.x v ((execOp a.eval oi).run P p.x))/\K (a.put oi.dst v) else K (a.put oi.dst undef)):
 rP P md ops Q E r (fuel+1) listed a w:=lI i n (alB r) (TV w) h hi hs hf hr (by rw [hcl,hE];simp) hQ
theorem VJ (i:Nat) {oi:Oper} {fuel:Nat} {listed:Array Bool} {a:Act} {w:World} (hi:ops[i]?=some oi) (hr:Region.ready md ops listed=[i]) (hw:Region.wanted oi (yielded ops a.tmps)=true) (P6:i≠E)
 (h:∀x,Ge w x->oi.wp P a x (λa' y=>aC [r] x y/\rP P md ops Q E r fuel (listed.setIfInBounds i true) a' y) Q):rP P md ops Q E r (fuel+1) listed a w:=uV i hi hr hw P6 h
theorem Hy (i n:Nat) {oi:Oper} {fuel:Nat} {listed:Array Bool} {a:Act} {w:World} (hi:ops[i]?=some oi) (hs:Region.noSelect ops=true) (hf:Region.free md ops listed i=true) (hr:(Region.ready md ops listed).contains i=true)
 (hcl:oW md ops listed=true) (hE:(WQ md ops E n).contains i=true)
 (hQ:∀v c a w,Q (.panic c) (a.put oi.dst v) w->Q (.panic c) a w) (hw:Region.wanted oi (yielded ops a.tmps)=true)
 (ty:TypeId) (x:Operand) (ho:oi.op= .load ty x) (g o:Nat) (hx:a.eval x= .pointer (some ⟨g,o,none⟩)) (cs:List Value) (d:TypeDesc) (hc:w.rangeAt g o cs) (hg:g < w.heap.size/\g≠r)
 (hu:P.underlying ty=some d) (hd:d.isRow=true) (hz:(P.info? ty).map (·.size)=some cs.length)
 (h:rP P md ops Q E r fuel (listed.setIfInBounds i true) (a.put oi.dst (.agg cs.toArray)) w):rP P md ops Q E r (fuel+1) listed a w:=by
 refine pO n (alB r) hi (aGq hs) (hQ _) fuel listed a w (.inr ⟨by simpa using hE,zR hcl⟩) (aGw hi hf) (by simpa using hr) (.inl ⟨hw,λy hy=>?_⟩) h;have hc2:y.rangeAt g o cs:=λj v hv=>(aE6 (w:=w) (hy.block g hg.1 (by simpa using hg.2))).trans (hc j v hv)
 unfold execOp;simp only[ho,hx,Instr.loadAt,Instr.sureAddr,Sem.run_bind,Sem.run_pure,Result.andThen_ok,run_loadVar_mid y g o ty cs d hc2 hu hd hz];exact⟨rfl,rfl⟩
theorem Hz (i:Nat) {oi:Oper} {fuel:Nat} {listed:Array Bool} {a:Act} {w:World} (hi:ops[i]?=some oi) (hr:Region.ready md ops listed=[i]) (hw:Region.wanted oi (yielded ops a.tmps)=true) (P6:i≠E)
 (ty:TypeId) (x y:Operand) (ho:oi.op= .store ty x y) (cells:Array Value) (hx:a.eval x= .pointer (some ⟨r,0,none⟩)) (hy:a.eval y= .agg cells) {zs:Array Value} {t:TypeId} (hb:w.heap[r]?=some (.cells zs t (0,0))) (hs:cells.size=zs.size)
 (hn:(P.info? ty).map (·.size)=some cells.size) (h1:cells.all (·.oneCell')=true)
 (h:∀X,aC [r] w X->X.heap[r]?=some (.cells cells t (0,0))->rP P md ops Q E r fuel (listed.setIfInBounds i true) (a.put oi.dst undef) X):rP P md ops Q E r (fuel+1) listed a w:=
 VJ i hi hr hw P6 λX hX=>by
  have hbX:=aj hb hX
  refine wp_store_mid ty x y ho r 0 cells hx hy (λj hj=>⟨by rw [aEz X _ _ _ t (0,0) hbX];simp;omega,aA hbX _⟩) hn h1 ⟨iC _ _ _ _,h _ ((aC.of_below hX).trans (iC _ _ _ _)) ?_⟩
  rw [qp]
  exact Zt cells.toList zs.toList (by simpa using hs.symm) (by simpa using hbX)
theorem Bp {fuel:Nat} {listed:Array Bool} {a:Act} {w:World} (hr:Region.ready md ops listed=[E]) (h:∀x,Ge w x->wpAny P md ops Q (fuel+1) listed a x):rP P md ops Q E r (fuel+1) listed a w:=uU hr h
theorem ad6 (E r:Nat) {id:Nat} {a:Act} {w:World} (hm:P.follows .mixedOrders=true) (h:rP P .any ops Q E r ops.size (Array.replicate ops.size false) a w):(Code.region id ops true).wp P Q a w:=jT E hm h
end
end Go.Proofs.YtfachhcijcjbpaaGreatDoor
