/- Parts. -/
import Derived.Test.YtohmklmkjmlpjaaGreatDoorRc20
import Derived.Test.YtohmklmkjmlpjaaGreatDoorRc21
import Derived.Test.YtohmklmkjmlpjaaGreatDoorRc18
namespace Go.Proofs.YtohmklmkjmlpjaaGreatDoor
open Go.Proofs.Tryz
set_option maxHeartbeats 4000000
open Go.RowKit
open Mth
variable {w w':World} {mb n g:Nat} {l:List Int} {D:DataW Unit}
namespace Mth
def aE9 (id par:Int) (kids fs:List Int):Nd:=⟨id,par,kids,1,[],[],fs.map (λx=>⟨x,1,[]⟩),0,[]⟩
def aE1:Nd:=⟨0,0,[],0,[],[],[],0,[]⟩
end Mth
def aEM (x:Int):R3:=⟨x,1,.slice none 0 0⟩
abbrev nnc (id par:Int) (kv v:Value):Array Value:=#[.int .i64 id,.int .i64 par,kv,.int .i64 1,.slice none 0 0,.slice none 0 0,v,.int .i64 0,.slice none 0 0]
structure NN (w2 wr:World) (nb:Nat) (id par:Int) (kv v:Value) (fs:List Int):Prop where
 keep:aC [nb] w2 wr
 blk:wr.heap[nb]?=some (.cells (nnc id par kv v) 40 (0,0))
 own:wr.ownsRow w2.heap.size 110 3 v fs.length (GR.flat fq (fs.map aEM))
 lt:nb < w2.heap.size
theorem aBw (I:Nat->Nat) (fs:List Int):nA I (fs.map (λx=>(⟨x,1,[]⟩:Sn)))=[]:=by
 apply List.eq_nil_iff_forall_not_mem.2
 intro x hx;obtain⟨i,hi,_,hp⟩:=qM hx;simp at hp
abbrev iP:Array Value:=(iT 0 0 none 0 0 0 none 0 0 none 0 0 none 0 0 0 none 0 0)
set_option maxRecDepth 100000
open Go.RowKit Go.Maps
abbrev FI (x:Int):Lit:= .int .i64 x
theorem afD {a b:Int} (h:a≠b):FI a≠FI b:=λe=>h (by injection e)
theorem rW:Keyed Tryz.prog 3:=int_keyed Tryz.underlying3
theorem Qt (x:Int) (h0:0<=x) (h1:x<=1000000000):keyOf Tryz.prog 3 (.int .i64 x)=some (FI x):=keyOf_int_mk Tryz.underlying3 (by simp only[Lit.wf,aGl,aGy];constructor<;>(first|omega|(unfold IntKind.min;simp;omega)|(unfold IntKind.max;simp;omega)|(simp[IntKind.min,IntKind.max,IntKind.bits,IntKind.signed];omega)))
theorem aei (w:World):(zeroValue 125).run Tryz.prog w= .ok (.agg #[]) w:=Aab
def fJ (w:World) (mb n:Nat) (l:List Int):Prop:=∃D:DataW Unit,w.ownsMap Tryz.prog 3 unitElem mb n D/\∀x,Maps.has D (FI x)=decide (x∈l)
theorem fJ.made (w:World):fJ (w.alloc (.map #[] 0)) w.heap.size 0 []:=⟨_,World.ownsMap_made w _ _ _,λx=>by simp[Maps.has]⟩
theorem fJ.lt (h:fJ w mb n l):mb < w.heap.size:=h.choose_spec.1.lt
theorem fJ.kept (h:fJ w mb n l) (hb:w'.heap[mb]?=w.heap[mb]?):fJ w' mb n l:=by
 exact ajM
theorem fJ.mono {n':Nat} (h:fJ w mb n l) (hn:n<=n'):fJ w mb n' l:=by
 obtain⟨D,h1,h2⟩:=h;exact⟨D,h1.mono hn,h2⟩
theorem fJ.same {l':List Int} (h:fJ w mb n l) (he:∀x,x∈l↔x∈l'):fJ w mb n l':=by
 obtain⟨D,h1,h2⟩:=h;exact⟨D,h1,λx=>by rw [h2 x,decide_eq_decide];exact he x⟩
theorem fJ.look (h:fJ w mb n l) (x:Int) (h0:0<=x) (h1:x<=1000000000):
 (Instr.lookup 291 (.map (some mb)) (.int .i64 x) true).run Tryz.prog w= .ok (.tuple #[.agg #[],.bool (decide (x∈l))]) w:=by
 obtain⟨D,hown,ha⟩:=h;obtain⟨v,ps,hrun,hv⟩:=hown.look_ok rW Tryz.underlying291 (aei w) unitElem_mk (Qt x h0 h1);rw [hrun,ha x,(unitElem_inv hv).1]
theorem fJ.store (h:fJ w mb n l) (x:Int) (h0:0<=x) (h1:x<=1000000000) (hn:n < maxLen):
 ∃w',(Instr.mapUpdate 291 (.map (some mb)) (.int .i64 x) (.agg #[])).run Tryz.prog w= .ok () w'/\fJ w' mb (n+1) (x::l)/\Keeps mb w w':=by
 obtain⟨D,hown,ha⟩:=h;obtain⟨w',hrun,g1,g2⟩:=hown.store rW Tryz.underlying291 hn (Qt x h0 h1) unitElem_mk;refine⟨w',hrun,⟨_,g1,λy=>?_⟩,oW g2⟩;by_cases e:y=x
 .subst e;rw [has_put_same hown.isMap (show WideAt.IsKeyLit (FI y) from trivial)];simp
 .rw [has_put_other (afD e),ha y];simp[e]
theorem fJ.keys (hown:w.ownsMap Tryz.prog 3 unitElem mb n D) (ha:∀x,Maps.has D (FI x)=decide (x∈l)) (hl:l.Nodup):l.Perm (intKeys D):=by
 obtain⟨es,hD,hpw,_⟩:=hown.entries rW;obtain⟨es',hD',hko⟩:=hown.keysOf;obtain rfl:es=es':=by rw [hD] at hD';simpa using hD'
 subst hD;exact perm_intKeys hpw (λp hp=>by obtain⟨v,hv⟩:=hko p hp;obtain⟨x,_,hx,_⟩:=Maps.keyOf_i64 Tryz.underlying3 hv;exact⟨x,hx⟩) hl (λx=>by rw [ha x];simp)
theorem KW (hown:w.ownsMap Tryz.prog 3 unitElem mb n D):Maps.size D=(intKeys D).length:=by
 obtain⟨es,hD,_⟩:=hown.entries rW;subst hD;simp[Maps.size,intKeys]
theorem fJ.len (h:fJ w mb n l) (hl:l.Nodup) (ty:TypeId):(Builtin.len_ #[291] ty #[.map (some mb)]).run Tryz.prog w= .ok (.int .i64 l.length) w:=by
 obtain⟨D,hown,ha⟩:=h;rw [hown.len Tryz.underlying291 ty,KW hown,(fJ.keys hown ha hl).length_eq]
theorem alY (B sb mb:Nat) (low x:Int) (w:World) (h1:w.heap[B]?=some (.cells #[.pointer (some ⟨sb,0,none⟩)] 264 (0,0))) (h2:w.heap[sb]?=some (.cells #[.int .i64 low,.map (some mb)] 293 (0,0))):
 Calls Tryz.prog 266 #[.int .i64 x,.agg #[],.pointer (some ⟨B,0,none⟩)] w (dZ w (.bool (decide (x < low)))):=by
 have hB:=aA h1;have hS:=aA h2;have c0:w.cell? ⟨B,0,none⟩=some (.pointer (some ⟨sb,0,none⟩)):=aGu w B 0 _ _ (0,0) h1;have c1:w.cell? ⟨sb,0,none⟩=some (.int .i64 low):=aGu w sb 0 _ _ (0,0) h2;clear h1 h2;go_in
 exact Wy
def Ak (low:Int):Lit->DataW Unit->Bool
 | .int _ x,_=>decide (x < low)
 |_,_=>false
theorem Yn {es:List (Lit×DataW Unit)} (low:Int) (hown:w.ownsMap Tryz.prog 3 unitElem mb n (.map es)) (ha:∀x,Maps.has (.map es) (FI x)=decide (x∈l)) (x:Int):
 Maps.has (Lib.deleteFuncD (Ak low) (.map es)) (FI x)=decide (x∈l.filter (λx=>decide (low<=x))):=by
 obtain⟨es',hD',hko⟩:=hown.keysOf;obtain rfl:es=es':=by simpa using hD'
 have hx:=ha x;rw [aHu,aGR,has_eq,List.any_eq_true] at hx;show Maps.has (.map (es.filter λp=> !Ak low p.1 p.2)) (FI x)=_
 rw [aHu,aGR,has_eq,List.any_eq_true,aIc,<-hx,aGR];constructor
 .rintro⟨p,hp,hs⟩;obtain⟨hp1,hp2⟩:=aIc.1 hp;refine⟨⟨p,hp1,hs⟩,?_⟩;obtain⟨v,hv⟩:=hko p hp1;obtain⟨y,_,hy,_⟩:=Maps.keyOf_i64 Tryz.underlying3 hv;rw [hy] at hs hp2;have e:y=x:=by simpa [Lit.sameKey] using hs
  subst e;simpa [Ak] using hp2
 .rintro⟨⟨p,hp1,hs⟩,hle⟩;obtain⟨v,hv⟩:=hko p hp1;obtain⟨y,_,hy,_⟩:=Maps.keyOf_i64 Tryz.underlying3 hv;have hs':=hs;rw [hy] at hs';have e:y=x:=by simpa [Lit.sameKey] using hs'
  subst e;exact⟨p,aIc.2 ⟨hp1,by rw [hy];simpa [Ak] using hle⟩,hs⟩
theorem FZ {b:Nat} (g:w.grownBy w' (some b)):_root_.Go.Proofs.YtohmklmkjmlpjaaGreatDoor.Keeps b w w':=⟨g.os,g.tape,g.output,g.size,λk hk hne=>g.block k hk (λe=>hne (aHd e))⟩
theorem ig (h:aI w w') (row:Option Nat):w.grownBy w' row:=⟨h.os,h.tape,h.output,h.size,λk hk _=>h.block k hk⟩
theorem alf (B sb mb n:Nat) (low:Int) (l:List Int) (w:World) (h1:w.heap[B]?=some (.cells #[.pointer (some ⟨sb,0,none⟩)] 264 (0,0))) (h2:w.heap[sb]?=some (.cells #[.int .i64 low,.map (some mb)] 293 (0,0))) (hs:fJ w mb n l):
 Calls Tryz.prog 265 #[.map (some mb),.func (.func 266) #[] #[.pointer (some ⟨B,0,none⟩)]] w λe w'=>e= .returned (.tuple #[])/\fJ w' mb n (l.filter (λx=>decide (low<=x)))/\Keeps mb w w':=by
 obtain⟨D,hown,ha⟩:=hs;obtain⟨es0,rfl,hap,hkeys⟩:=hown.entries rW;have hmap:∃es clock,w.heap[mb]?=some (.map es clock):=by obtain⟨es,clock,hb,_⟩:=hown;exact⟨es,clock,hb⟩
 obtain⟨es1,clock1,hmb⟩:=hmap;have hBm:B≠mb:=λe=>by rw [e,hmb] at h1;cases h1
 have hSm:sb≠mb:=λe=>by rw [e,hmb] at h2;cases h2
 have HA:=Hq (Yn (n:=n) low hown ha);have HD:=Hq (fun(W:World) (x:Int) (hg:w.grownBy W (some mb))=>alY B sb mb low x W ((hg.block B (aA h1) (by simpa using hBm)).trans h1) ((hg.block sb (aA h2) (by simpa using hSm)).trans h2));clear h1 h2 hmb hBm hSm ha;go_in
 go_wp2_with (first
  |(at_range;refine wpList_range_own _ rfl _ 291 rfl 3 125 rW Tryz.underlying291 unitElem mb n _ rfl hown ?_;intro w0 hrg0 hg0 hs0)
  |go_in)
 go_frame
 go_loopw [8] (λ_ wr=>∃(left:Lit->Bool) (cnt:Nat),wr.ranges Tryz.prog 3 unitElem mb w.heap.size n (Fk (Ak low) es0 left) left cnt/\w.grownBy wr (some mb))
  (λ_ wr=>wr.rangeLeft mb w.heap.size)
 case atStart=>exact⟨_,_,by rw [Fk_start hkeys];exact hrg0,hg0.but _⟩
 case round=>
  obtain⟨left,cnt,hrg,hgw⟩:=hrel
  go_wp2_with (first
   |(at_next;refine wpList_next_ranges _ rfl _ rfl 3 rW unitElem (Value.int .i64) (λ_:Unit=>Value.agg #[]) (λkey kl hk=>by obtain⟨x,hx,_⟩:=Maps.keyOf_i64 Tryz.underlying3 hk;exact⟨x,hx⟩) (λv y hv=>⟨(),(unitElem_inv hv).1⟩) mb w.heap.size n _ _ _ rfl hrg ?_ ?_)
   |go_in)
  ·
   intro _ hl0
   go_wp2_with fail
   go_end0
   refine⟨rfl,⟨_,?_,HA⟩,FZ hgw⟩
   rw [<-Fk_end hl0]
   exact hrg.owns
  ·
   intro x kl yd yp w1 cnt1 hkey hlx hv hat hrg1 hlt hg1 hs1 hen
   obtain⟨x',ex,rfl,_⟩:=Maps.keyOf_i64 Tryz.underlying3 hkey
   cases ex
   have hgw1:=hgw.andThen hg1 (λj hj=>by cases hj;exact Or.inl (aGh _))
   have hc:=Hq (HD (w1.alloc (.cells #[] 125)) x (hgw1.andThen (World.grownBy_alloc w1 _ none) (λj hj=>by cases hj)))
   have aAJ:=hrg1.alloc (.cells #[] 125)
   have hgA:=hgw1.andThen (World.grownBy_alloc w1 (.cells #[] 125) none) (λj hj=>by cases hj)
   by_cases hx:x < low
   .have hp:Ak low (FI x) yd=true:=by simpa [Ak] using hx
    have hq:decide (x < low)=true:=Aah
    go_wp2_with (first
     |(go_at_call 266;refine hc.mono ?_;rintro e w2 ⟨rfl,hb2⟩;have hrg2:=aAJ.kept (ig hb2 none) Aac Aac)
     |(at_delete;refine wpList_delete_ranges _ rfl _ _ 291 3 rfl 125 rW Tryz.underlying291 unitElem mb w.heap.size n _ _ _ rfl hrg2 _ _ rfl hkey ?_;intro w3 cnt3 hrg3 hle hturn;go_frame)
     |go_in)
    rw [strike_twice] at hrg3;go_roundw
    case rel=>exact⟨_,cnt3,by rw [<-Fk_struck hap (rW.key hkey) hlx hp hat];exact hrg3,(hgA.andThen (ig hb2 none) (λj hj=>by cases hj)).andThen hturn.grown (λj hj=>by cases hj;exact Or.inr rfl)⟩
    case measure=>rw [hrg3.left_eq,hrg.left_eq];omega
   .have hp:Ak low (FI x) yd=false:=by simpa [Ak] using hx
    have hq:decide (x < low)=false:=Aah
    go_wp2_with (first
     |(go_at_call 266;refine hc.mono ?_;rintro e w2 ⟨rfl,hb2⟩;have hrg2:=aAJ.kept (ig hb2 none) Aac Aac)
     |go_in)
    go_roundw
    case rel=>exact⟨_,cnt1,by rw [<-Fk_stays hap (rW.key hkey) hlx hp hat];exact hrg2,hgA.andThen (ig hb2 none) (λj hj=>by cases hj)⟩
    case measure=>rw [hrg2.left_eq,hrg.left_eq];exact hlt
abbrev lI (w:World) (sb mb:Nat) (low:Int):Prop:=w.heap[sb]?=some (.cells #[.int .i64 low,.map (some mb)] 293 (0,0))
theorem aC.of_keeps (h:Keeps g w w'):aC [g] w w':=⟨h.os,h.tape,h.output,h.size,λk hk hg=>h.block k hk (by simpa using hg)⟩
theorem fJ.ne {sb:Nat} {low:Int} (h:fJ w mb n l) (hs:lI w sb mb low):sb≠mb:=λe=>by
 obtain⟨D,⟨es,clock,hb,_⟩,_⟩:=h;unfold lI at hs;rw [e,hb] at hs;cases hs
theorem fJ.far {cs:Array Value} {t:TypeId} {q:Nat×Nat} (h:fJ w mb n l) (hs:w.heap[g]?=some (.cells cs t q)):g≠mb:=λe=>by
 obtain⟨D,⟨es,clock,hb,_⟩,_⟩:=h;rw [e,hb] at hs;cases hs
theorem als (sb mb n:Nat) (low x:Int) (l:List Int) (w:World) (h0:0<=x) (h1:x<=1000000000) (hb:lI w sb mb low) (hs:fJ w mb n l):
 Calls Tryz.prog 247 #[.pointer (some ⟨sb,0,none⟩),.int .i64 x] w (dZ w (.bool (decide (x < low)||decide (x∈l)))):=by
 have hsl:=aA hb;obtain⟨⟨m0,m1⟩,_⟩:=mV hb;have hrun:=hs.look x h0 h1;clear hb hs;cases hm:decide (x∈l)
 .rw [hm] at hrun;go_in
  exact Wy
 .rw [hm] at hrun;go_in
  exact Wy
theorem afM (sb mb n:Nat) (aAZ low L:Int) (l:List Int) (w:World) (hL:max aAZ low=L) (hb:lI w sb mb aAZ) (hs:fJ w mb n l):
 Calls Tryz.prog 246 #[.pointer (some ⟨sb,0,none⟩),.int .i64 low] w λe w'=>e= .returned (.tuple #[])/\lI w' sb mb L/\fJ w' mb n (l.filter (λx=>decide (L<=x)))/\aC [sb,mb] w w':=by
 have hsl:=aA hb;have hml:=hs.lt;have hne:=hs.ne hb;have HB:=Hq hb;have HS:=Hq hs;obtain⟨⟨m0,m1⟩,f0,f1⟩:=mV hb;have HL:=Hq hL;clear hb hs hL;go_in
 go_upto_region 2 with fail;go_region
 rw [ah HL];go_upto_region 2 with fail;refine wp_at (λW hW=>?_);have hsz:(w.setCell ⟨sb,0,none⟩ (.int .i64 L)).heap.size=w.heap.size:=Aaq
 have e1:W.heap[w.heap.size]?=some (.cells #[.pointer (some ⟨sb,0,none⟩)] 264 (0,0)):=by
  rw [hW,<-hsz];exact aGg _ _
 have e2:lI W sb mb L:=by
  have h1:(w.setCell ⟨sb,0,none⟩ (.int .i64 L)).heap[sb]?=some (.cells #[.int .i64 L,.map (some mb)] 293 (0,0)):=aT HB 0 (.int .i64 L);rw [hW];exact(aGv _ _ _ (by rw [hsz];exact hsl)).trans h1
 have e3:fJ W mb n l:=HS.kept (by
  rw [hW]
  exact(aGv _ _ _ (by rw [hsz];exact hml)).trans (aGx _ _ _ _ hne.symm))
 have e4:aC [sb,mb] w W:=by
  rw [hW];refine⟨rfl,rfl,rfl,Aaq,λk hk hkn=>?_⟩;have h1:k≠sb:=λe=>hkn (by simp[e])
  exact(aGv _ _ _ (by rw [hsz];exact hk)).trans (aGx _ _ _ _ h1)
 have m0:W.cell? ⟨w.heap.size,0,none⟩=some (.pointer (some ⟨sb,0,none⟩)):=aGu W _ 0 _ _ (0,0) e1;obtain⟨⟨m1,m2⟩,_⟩:=mV e2;have hwl:=aA e1;have hsl2:=aA e2;have HD:=Hq (alf w.heap.size sb mb n L l W e1 e2 e3);have E2:=Hq e2;have E4:=Hq e4;clear hW e1 e2 e3 e4 HB HS;go_wp2_with fail;refine HD.mono ?_;rintro e w' ⟨rfl,g1,g2⟩;have G1:=Hq g1;have G2:=Hq g2;clear g1 g2 HD m0 m1 m2;go_wp2_with fail;refine aIi (v:= .tuple #[]) (by simp[results,Tryz.results246,go_sem]) rfl ⟨rfl,?_,G1,E4.trans ((aC.of_keeps G2).mono Aac)⟩;unfold lI;rw [(ah G2).block sb hsl2 hne];exact E2
theorem setOf (f low:Int) (a:Option Addr) (cap:Nat) (ids:List Int) (w:World) (hl:ids.length<=40) (hb:∀x∈ids,0<=x/\x<=1000000000) (ha:dH w a ids):
 Calls Tryz.prog 245 #[.agg #[.int .i64 f,.int .i64 low,.slice a ids.length cap]] w λe w'=>∃sb mb,e= .returned (.pointer (some ⟨sb,0,none⟩))/\w.heap.size<=sb/\w.heap.size<=mb/\lI w' sb mb low/\fJ w' mb ids.length ids/\aI w w':=by
 have hmm:= @run_makeMap Tryz.prog;have HA:=Hq ha;have HBD:=Hq hb;clear ha hb;go_in
 go_wp2_with fail;go_loopw [14] (λi wr=>∃k:Nat,k<=ids.length/\i= .int .i64 k/\lI wr (w.heap.size+1+1) (w.heap.size+1) low/\fJ wr (w.heap.size+1) k (ids.take k)/\aI w wr) (λi _=>ids.length - (intOf i).toNat)
 case atStart=>
  have hz:∀(u:World) (o:Obj),(u.alloc o).heap.size=u.heap.size+1:=λu o=>by simp
  have hM:=fJ.made (w.alloc (.cells #[.int .i64 f,.int .i64 low,.slice a ids.length cap] 110));have hS:=aGg ((w.alloc (.cells #[.int .i64 f,.int .i64 low,.slice a ids.length cap] 110)).alloc (.map #[] 0)) (.cells #[.int .i64 low,.map (some (w.heap.size+1))] 293);rw [hz] at hM;rw [hz,hz] at hS;refine⟨0,aGB _,rfl,hS,?_,?_⟩
  .refine hM.kept ?_;exact aGv _ _ _ (by rw [hz,hz];omega)
  .exact((ay w _).alloc (by rw [hz];omega) _).alloc (by rw [hz,hz];omega) _
 case round=>
  obtain⟨k,hk,rfl,hS,hI,hbw⟩:=hrel;have HS:=Hq hS;have HI:=Hq hI;have jl:=Hq hbw;obtain⟨⟨m0,m1⟩,_⟩:=mV hS;have hsl:=aA hS;clear hS hI hbw hmm;by_cases hlt:k < ids.length
  .obtain⟨g,off,rfl,hgw,q0⟩:=dH.one (GR.At.below HA jl) k hlt;have HB:=Hq (HBD ids[k] (aGz hlt));have HT:=Hq (show∀x,x∈ids[k]::ids.take k↔x∈ids.take (k+1) from λx=>by rw [aGt hlt,aGF,aGE,aGA,or_comm]);generalize ids[k]=ik at *;obtain⟨w2,hrun,hI2,hK2⟩:=HI.store ik HB.1 HB.2 Aai;have HI2:=Hq hI2;have uw:=Hq hK2;clear hI2 hK2;go_wp2_with fail;go_roundw
   case rel=>
    refine⟨k+1,Aaa,Aaf,?_,HI2.same HT,?_⟩
    .unfold lI;rw [(ah uw).block _ hsl Aaa];exact HS
    .exact jl.trans ⟨uw.os,uw.tape,uw.output,uw.size,λj hj=>uw.block j (by have:=jl.size;omega) Aaa⟩
   case measure=>simp[intOf];omega
  .have hke:k=ids.length:=Aaa
   subst hke;have hnlt:decide ((ids.length:Int) < (ids.length:Int))=false:=Aac
   go_wp2_with fail;go_ret;refine⟨_,_,rfl,Aaa,Aaa,HS,?_,jl⟩;have h:=ah HI;rwa [aGL] at h
end Go.Proofs.YtohmklmkjmlpjaaGreatDoor
