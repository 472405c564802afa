/- Parts. -/
import Derived.Test.YtbolgdleijjgfaaGreatDoorRf2
import Derived.Test.YtbolgdleijjgfaaGreatDoorRf4
import Derived.Test.YtbolgdleijjgfaaGreatDoorRf7
namespace Go.Proofs.YtbolgdleijjgfaaGreatDoor
open Go.Proofs.Tryz
set_option maxHeartbeats 4000000
open Go.RowKit
def bv (c:UInt8):Value:= .int .u8 (c.toNat:Int)
theorem TJ {P:Program} {w:World} {base:Nat} {e:TypeId} {v:Value} {l:List UInt8} (src dst:TypeId) (hs:P.underlying src=some (.slice e)) (he:P.underlying e=some (.int .u8)) (hd:P.underlying dst=some .string)
 (h:w.ownsRow base e 1 v l.length (l.map bv)):(convert src dst v).run P w= .ok (.string ⟨l.toArray⟩) w:=by
 rcases h.2 with⟨rfl,hn⟩|⟨g,cap,cur,rfl,_⟩
 .rw [run_convert_bytes_string w src dst e none 0 0 hs he hd];have:l=[]:=List.length_eq_zero_iff.1 hn;subst this;rfl
 .apply aGt w src dst e _ cap l hs he hd
  intro j hj;exact h.cells rfl j (bv l[j]) (by simp[hj])
theorem QA {w:World} {base:Nat} {e:TypeId} {v:Value} {l:List UInt8} {z:Int} (b:UInt8) (hz:z=b.toNat) (h:w.ownsRow base e 1 v (l.length+1) (l.map bv++[.int .u8 z])):
 w.ownsRow base e 1 v (l++[b]).length ((l++[b]).map bv):=by
 subst hz;have e1:(l++[b]).map bv=l.map bv++[.int .u8 (b.toNat:Int)]:=by simp[bv]
 rw [e1];simpa using h
theorem below_append {w wr w1:World} {e:TypeId} {v:Value} {n:Nat} {xs:List Value} {o:Obj} (hb:aH w wr) (hown:wr.ownsRow w.heap.size e 1 v n xs) (hg:(wr.alloc o).grownBy w1 v.ownBlock):aH w w1:=
 (hb.alloc (by have:=hb.size;omega) o).grown hg (by have:=hb.size;simp;omega) (λk hk=>(hown.lt k hk).1)
namespace GR
open Go.RowKit
variable {α:Type} {enc:α->List Value} {sz:Nat}
theorem At.news {w:World} {x:Addr} {l:List α} (hs:∀y,(enc y).length=sz) (hz:0 < sz) (h:At enc sz w (some x) l):∀j u,(flat enc l)[j]?=some u->w.cell? (x.add j)=some u:=by
 intro j u hu
 have hj:j < l.length*sz:=by
  have:=(aFK.1 hu).1;rwa [flat_length enc sz hs] at this
 have hq:j / sz < l.length:=Nat.div_lt_of_lt_mul (by rw [aGL];exact hj);have hr:j % sz < sz:=Nat.mod_lt _ hz;obtain⟨g,off,e,hg,hc⟩:=h (j / sz) hq;have hf:=flat_at enc sz hs l (j / sz) hq (j % sz) hr;have ej:j / sz*sz+j % sz=j:=Nat.div_add_mod' j sz;rw [ej] at hf;have h2:=hc (j % sz) hr;exact ah3
theorem flat_oneCell (h1:∀y,∀u∈enc y,u.oneCell'=true) (l:List α):∀u∈flat enc l,u.oneCell'=true:=by
 intro u hu;unfold flat at hu;rw [aGf] at hu;obtain⟨p,_,hp⟩:=hu;exact h1 p u hp
theorem own_below {w w':World} {B:Nat} {e:TypeId} {sz:Nat} {v:Value} {n:Nat} {xs:List Value} (h:w.ownsRow B e sz v n xs) (hb:aH w w'):w'.ownsRow B e sz v n xs:=
 h.kept (row:=none) ⟨hb.os,hb.tape,hb.output,hb.size,λk hk _=>hb.block k hk⟩ (by cases v.ownBlock with|none=>exact .inl rfl|some k=>exact .inr (by simp))
theorem own_lower {w:World} {b b':Nat} {e:TypeId} {sz:Nat} {v:Value} {n:Nat} {xs:List Value} (h:w.ownsRow b e sz v n xs) (hb:b'<=b):w.ownsRow b' e sz v n xs:=by
 exact air
theorem below_append {w wr w1:World} {B:Nat} {e:TypeId} {sz:Nat} {v:Value} {n:Nat} {xs:List Value} {o:Obj} (hb:Below B w wr) (hB:B<=wr.heap.size) (hown:wr.ownsRow B e sz v n xs) (hg:(wr.alloc o).grownBy w1 v.ownBlock):Below B w w1:=
 (hb.alloc hB o).grown hg Aah (λk hk=>(hown.lt k hk).1)
theorem none_nil {w:World} {l:List α} (h:At enc sz w none l):l=[]:=by
 cases l with
 |nil=>rfl
 |cons y l=>
  obtain⟨g,off,e,_⟩:=h 0 Aac;cases e
end GR
open Mth
theorem ay {w:World} {g:Nat} {o:Obj} (h:w.heap[g]?=some o):g < w.heap.size:=by
 exact aa3
structure aA (F:List Nat) (w w':World):Prop where
 os:w'.os=w.os
 tape:w'.tape=w.tape
 output:w'.output=w.output
 size:w.heap.size<=w'.heap.size
 block:∀k,k < w.heap.size->k∉F->w'.heap[k]?=w.heap[k]?
theorem aA.refl (F:List Nat) (w:World):aA F w w:=⟨rfl,rfl,rfl,aER _,λ_ _ _=>rfl⟩
theorem aA.trans {F:List Nat} {a b c:World} (h:aA F a b) (k:aA F b c):aA F a c:=
 ⟨k.os.trans h.os,k.tape.trans h.tape,k.output.trans h.output,aEU h.size k.size,λi hi hg=>(k.block i (aEZ hi h.size) hg).trans (h.block i hi hg)⟩
theorem aA.mono {F F':List Nat} {a b:World} (h:aA F a b) (hs:∀x∈F,x∈F'):aA F' a b:=
 ⟨h.os,h.tape,h.output,h.size,λi hi hg=>h.block i hi (λhx=>hg (hs i hx))⟩
theorem aA.of_below {F:List Nat} {w w':World} (h:aH w w'):aA F w w':=⟨h.os,h.tape,h.output,h.size,λk hk _=>h.block k hk⟩
theorem aA.set {g i:Nat} {w:World} (v:Value):aA [g] w (w.setCell ⟨g,i,none⟩ v):=
 ⟨rfl,rfl,rfl,Aaq,λk _ hg=>aFe _ _ _ _ (by simpa using hg)⟩
theorem aA.below {F:List Nat} {B:Nat} {w w':World} (h:aA F w w') (hB:∀x∈F,B<=x) (hs:B<=w.heap.size):Below B w w':=
 ⟨h.os,h.tape,h.output,h.size,λk hk=>h.block k Aaa (λhx=>by have:=hB k hx;omega)⟩
theorem aA.obj {F:List Nat} {w w':World} {g:Nat} {o:Obj} (hk:aA F w w') (h:w.heap[g]?=some o) (hg:g∉F):w'.heap[g]?=some o:=by
 rw [hk.block g (ay h) hg];exact h
def fp {α:Type} (g:Nat) (l:List α):List Nat:=if l.isEmpty then[] else[g]
theorem dK {α:Type} {g:Nat} {l:List α} (h:0 < l.length):g∈fp g l:=by
 unfold fp;cases l with
 |nil=>simp at h
 |cons x l=>simp
theorem dw {α:Type} {g x:Nat} {l:List α} (h:x∈fp g l):x=g/\0 < l.length:=by
 unfold fp at h;cases l with
 |nil=>simp at h
 |cons y l=>simpa using h
theorem jJ {α:Type} (g:Nat) (l:List α):(fp g l).Nodup:=by unfold fp;split<;>simp
namespace GR
variable {α:Type}
def W (enc:α->List Value) (sz:Nat) (w:World) (a:Option Addr) (g:Nat) (l:List α):Prop:=∀i (hi:i < l.length),a=some ⟨g,0,none⟩/\g < w.heap.size/\∀j,j < sz->w.cell? ⟨g,i*sz+j,none⟩=(enc l[i])[j]?/\w.frozen? ⟨g,i*sz+j,none⟩=false
variable {enc:α->List Value} {sz:Nat}
theorem W.at {w:World} {a:Option Addr} {g:Nat} {l:List α} (h:W enc sz w a g l):At enc sz w a l:=λi hi=>
 ⟨g,0,(h i hi).1,(h i hi).2.1,λj hj=>by rw [aFE];exact((h i hi).2.2 j hj).1⟩
theorem W.of_blk {w:World} {t:TypeId} {g:Nat} {l:List α} (hs:∀x,(enc x).length=sz) (h:Blk enc t w g l):W enc sz w (some ⟨g,0,none⟩) g l:=λi hi=>
 ⟨rfl,Blk.lt h,λj hj=>⟨Blk.cell h hs i hi j hj,Blk.free h _⟩⟩
theorem W.nil {w:World} {a:Option Addr} {g:Nat}:W enc sz w a g []:=λi hi=>by simp at hi
theorem W.keeps {F:List Nat} {w w':World} {a:Option Addr} {g:Nat} {l:List α} (h:W enc sz w a g l) (hk:aA F w w') (hd:∀x∈fp g l,x∉F):W enc sz w' a g l:=λi hi=>by
 obtain⟨e,hg,hc⟩:=h i hi;have hne:g∉F:=hd g (dK Aaa);exact ahP
theorem W.below {w w':World} {a:Option Addr} {g:Nat} {l:List α} (h:W enc sz w a g l) (hb:aH w w'):W enc sz w' a g l:=h.keeps (F:=[]) (aA.of_below hb) (λ_ _=>Aac)
theorem W.of_own {w:World} {B:Nat} {t:TypeId} {v:Value} {l:List α} (hs:∀x,(enc x).length=sz) (h:w.ownsRow B t sz v l.length (flat enc l)):∃a c g,v= .slice a l.length c/\W enc sz w a g l/\(∀x∈fp g l,B<=x/\x < w.heap.size)/\(∀x∈fp g l,v.ownBlock=some x):=by
 obtain⟨a,c,rfl,hat⟩:=own_at hs h;rcases h.2 with⟨hv,hn⟩|⟨g,cap,cur,hv,hg,hblk,_⟩
 .have hl:l=[]:=aFk hn;subst hl;exact⟨_,_,0,rfl,W.nil,λx hx=>by simp[fp] at hx,λx hx=>by simp[fp] at hx⟩
 .cases hv
  refine⟨_,_,g,rfl,λi hi=>?_,λx hx=>?_,λx hx=>?_⟩
  .exact ahQ
  .rw [(dw hx).1];exact⟨hg,ay hblk⟩
  .rw [(dw hx).1];rfl
end GR
set_option maxRecDepth 100000
theorem infoByte:(Tryz.prog.info? 5).map (λi=>(i.zero,i.size,i.bytes))=some (some (.int .u8 0),1,1):=Aab
theorem sizeByte:(Tryz.prog.info? 5).map (·.size)=some 1:=Aab
theorem cellsByte:Tryz.prog.cellsOf 5=1:=Aab
theorem IL (w:World):Calls Tryz.prog 110 #[.string ByteArray.empty] w λe w'=>e= .returned (.string ByteArray.empty)/\w=w':=by
 go_in
 go_wp2
 go_ret;exact⟨rfl,rfl⟩
theorem Uu (n:Nat) (hn:n<=281474976710656):∃M:Array Value,M.size=n/\∀W:World,(Instr.makeSlice 127 (.int .i64 (n:Int)) (.int .i64 (n:Int))).run Tryz.prog W= .ok (.slice (some ⟨W.heap.size,0,none⟩) n n) (W.alloc (.cells M 5)):=by
 obtain⟨i0,hi,hz0,hz1,hz2⟩:=aFt infoByte;refine⟨madeCells (Value.int .u8 0).cells (((n:Nat):Int).toNat*i0.size),by rw [size_madeCells,hz1];simp,λW=>?_⟩;simpa using run_make (P:=Tryz.prog) W 127 5 i0 (.int .u8 0) Tryz.underlying127 hi hz0 .i64 .i64 (n:Int) (n:Int) Aaa Aaa Abc Aaa
theorem abv (w:World) (s:ByteArray) (M:Array Value) (hM:M.size=s.size):∃Y:Array Value,Y.toList=s.data.toList.map bv/\
 (Builtin.copy_ #[127,9] 3 #[.slice (some ⟨w.heap.size,0,none⟩) s.size s.size,.string s]).run Tryz.prog (w.alloc (.cells M 5))= .ok (goInt s.size) ((w.alloc (.cells M 5)).setRow w.heap.size Y):=by
 have h:=Lib.run_copy_row_string (P:=Tryz.prog) (w.alloc (.cells M 5)) 127 9 3 5 w.heap.size 0 s.size s.size s M 5 Tryz.underlying127 sizeByte (aEP w _) (aER _) Aaa;refine⟨_,?_,h⟩;rw [List.toList_toArray,aGG,aF5,List.drop_of_length_le (by rw [aFB];omega),aF4];rfl
theorem aeO (s:ByteArray) (w:World) (h0:0 < s.size) (hlim:s.size<=281474976710656):
 Calls Tryz.prog 110 #[.string s] w (dU w (.string s)):=by
 obtain⟨M,hMs,hmk⟩:=Uu s.size hlim;obtain⟨Y,hY,hcp⟩:=abv w s M hMs;have hYs:Y.size=s.size:=by rw [<-aFB,hY];simp
 have hg:((w.alloc (.cells M 5)).setRow w.heap.size Y).heap[w.heap.size]?=some (.cells Y 5 (0,0)):=setRow_heap _ _ M _ 5 (0,0) (aEP w _)
 have hus:=Lib.run_unsafeString_row (P:=Tryz.prog) ((w.alloc (.cells M 5)).setRow w.heap.size Y) 188 3 9 5 Tryz.underlying188 cellsByte w.heap.size Y.size (by unfold World.shape?;rw [hg]) s.data.toList
  (λe=>by have:=bf s;rw [e] at this;simp at this;omega) (by rw [bf];omega) (by rw [bf];omega)
  (λj x hx=>Lib.cells_of_row hg Y.size j _ (by rw [aGn (by rw [aFB];exact aER _),hY];simp[bv,hx]))
 rw [bf,Lib.mk_data] at hus;have hne:((s.size:Int) == 0)=false:=aGs.2 Aaa;have hlt:(0:Int) < (s.size:Int):=Aaa
 clear hY hMs hg;go_in
 go_wp2
 go_ret;exact⟨rfl,Lib.below_freeze (below_setRow ((aE3 _ w).alloc (aER _) _) (aER _) Y) (p:=⟨w.heap.size,0,none⟩) (aER _) _⟩
theorem clone (s:ByteArray) (w:World) (hlim:s.size<=281474976710656):
 Calls Tryz.prog 59 #[.string s] w (dU w (.string s)):=by
 by_cases h0:0 < s.size
 .go_in
  go_wp2_with (go_at_call 110;refine(aeO s _ h0 hlim).mono ?_;rintro e w' ⟨rfl,hbel⟩)
  go_ret;exact⟨rfl,hbel⟩
 .obtain rfl:=eq_empty s Aaa;go_in
  go_wp2_with (go_at_call 110;refine(IL _).mono ?_;rintro e w' ⟨rfl,rfl⟩)
  go_ret;exact⟨rfl,aE3 _ _⟩
open Go.Lib (decDigits itoa)
def nQ (a:Nat):List UInt8:=if a=0 then[] else decDigits a
theorem left_step (a:Nat) (l t:List UInt8) (h0:a≠0) (h:nQ a++l=t):nQ (a / 10)++(UInt8.ofNat (48+a % 10)::l)=t:=by
 unfold nQ at *;rw [aE2 h0] at h;by_cases hs:a < 10
 .have e1:a / 10=0:=Aaa
  have e2:a % 10=a:=Aaa
  rw [Mth.digits_small a hs] at h;rw [e1,e2,aFc rfl];simpa using h
 .rw [Mth.digits_big a hs] at h;rw [aE2 Aaa,<-h];simp
open Go.Lib (decDigits)
def mark (k:Nat):ByteArray:=⟨(109::decDigits k).toArray⟩
theorem one_add (b:UInt8) (l:List UInt8):(ByteArray.mk #[b])++⟨l.toArray⟩=⟨(b::l).toArray⟩:=by
 apply aF8;simp
theorem abu (w:World) (z:Int) (b:UInt8) (hz:z=b.toNat) (cap:Nat):(convert 127 9 (.slice (some ⟨w.heap.size,0,none⟩) 1 cap)).run Tryz.prog (w.alloc (.cells #[.int .u8 z] 5))= .ok (.string ⟨#[b]⟩) (w.alloc (.cells #[.int .u8 z] 5)):=by
 subst hz
 have:=aGt (P:=Tryz.prog) (w.alloc (.cells #[.int .u8 (b.toNat:Int)] 5)) 127 9 5 ⟨w.heap.size,0,none⟩ cap [b] Tryz.underlying127 Tryz.underlying5 Tryz.underlying9 (λj hj=>by
  have:j=0:=Abd
  subst this;simp[Addr.add])
 simpa using this
theorem acS (k:Nat) (w:World) (h0:0 < k) (hk:(k:Int)<=9223372036854775807):
 Calls Tryz.prog 35 #[.int .i64 k] w (dU w (.string (mark k))):=by
 have hlen:(decDigits k).length<=21:=by have:=Lib.itoa_length_le k Aaa hk;rw [Lib.itoa,aE2 Aaa] at this;simpa using this
 have hpos:decide ((k:Int)<=0)=false:=Aah
 go_in
 go_wp2
 go_loopw [0,3] (λm o wr=>∃(a:Nat) (l:List UInt8),a<=k/\m= .int .i64 a/\o= .string ⟨l.toArray⟩/\nQ a++l=decDigits k/\aH w wr) (λm _ _=>(intOf m).toNat)
 case atStart=>exact⟨k,[],aER _,rfl,rfl,by unfold nQ;rw [aE2 Aaa];simp,aE3 _ _⟩
 case round=>
  obtain⟨a,l,ha,rfl,rfl,hl,hbel⟩:=hrel;have HL:=Hq hl;have hll:l.length<=21:=by have:=congrArg List.length hl;rw [aEW] at this;omega
  clear hl;by_cases hz:a=0
  .subst hz;have HE:=Hq (show l=decDigits k by have:=ah HL;simpa [nQ] using this);have hA:=Hq (one_add 109 l);clear HL;go_wp2
   go_ret;exact⟨UJ (by unfold mark;rw [<-ah HE];exact hA),hbel⟩
  .have HS:=Hq (left_step a l _ hz HL);obtain⟨b,hb⟩:∃b,b=UInt8.ofNat (48+a % 10):=⟨_,rfl⟩;rw [<-hb] at HS;have hA:=Hq (one_add b l);have abS:=abu wr (48+(a:Int) % 10) b (by rw [hb,Mth.toNat_byte _ Aaa];omega) 1;clear HL hb;go_wp2
   go_roundw
   case rel=>exact⟨a / 10,_,Aaa,Aaf,by rw [ah hA],HS,by first|exact hbel.alloc (by have:=hbel.size;omega) _|exact(hbel.alloc (by have:=hbel.size;omega) _).drew⟩
   case measure=>simp[intOf];omega
theorem uo {g k:Nat}:∀(vs:List Value) (w:World) (o:Nat),k < o\/o+vs.length<=k->(GR.setW w g o vs).cell? ⟨g,k,none⟩=w.cell? ⟨g,k,none⟩:=by
 exact ahE
theorem El {g:Nat}:∀(vs:List Value) (w:World) (o:Nat),(∀j,j < vs.length->∃v,w.cell? ⟨g,o+j,none⟩=some v)->∀j,j < vs.length->(GR.setW w g o vs).cell? ⟨g,o+j,none⟩=vs[j]?:=by
 intro vs;induction vs with
 |nil=>intro w o _ j hj;simp at hj
 |cons v vs ih=>
  intro w o h j hj;cases j with
  |zero=>
   obtain⟨v0,hv0⟩:=h 0 Aac;rw [aGB] at hv0 ⊢;refine(uo vs (w.setCell ⟨g,o,none⟩ v) (o+1) Aaa).trans ?_;rw [aGA _ _ _ hv0];rfl
  |succ j=>
   exact ax8
theorem Nn {g k:Nat}:∀(vs:List Value) (w:World) (o:Nat),(GR.setW w g o vs).frozen? ⟨g,k,none⟩=w.frozen? ⟨g,k,none⟩:=by
 exact ah6
theorem GJ {g:Nat}:∀(vs:List Value) (w:World) (o:Nat),(GR.setW w g o vs).heap.size=w.heap.size:=by
 exact ah9
theorem gI {g:Nat}:∀(vs:List Value) (w:World) (o:Nat),aA [g] w (GR.setW w g o vs):=by
 intro vs;induction vs with
 |nil=>intro w o;exact aA.refl _ _
 |cons v vs ih=>intro w o;exact(aA.set v).trans (ih (w.setCell ⟨g,o,none⟩ v) (o+1))
theorem GR.W.set {α:Type} {enc:α->List Value} {sz:Nat} {w:World} {a:Option Addr} {g:Nat} {l:List α} (hs:∀x,(enc x).length=sz) (h:GR.W enc sz w a g l) (k:Nat) (x:α) (hk:k < l.length):GR.W enc sz (GR.setW w g (k*sz) (enc x)) a g (l.set k x):=λi hi=>by
 have hi':i < l.length:=Aat
 obtain⟨e,hg,hc⟩:=h i hi';refine⟨e,by rw [GJ];exact hg,λj hj=>⟨?_,by rw [Nn];exact(hc j hj).2⟩⟩;by_cases hik:i=k
 .subst hik
  rw [El (enc x) w (i*sz) (λj' hj'=>by
   have hj4:j' < sz:=by rw [hs] at hj';exact hj'
   have h1:=(hc j' hj4).1
   rw [aEV (by rw [hs];exact hj4)] at h1
   exact⟨_,h1⟩) j (by rw [hs];exact hj)]
  simp
 .have hcase:i*sz+j < k*sz\/k*sz+sz<=i*sz+j:=by
   rcases Nat.lt_or_gt_of_ne hik with h'|h'
   .left
    have:=aGk sz (show i+1<=k by omega);grind
   .right
    have:=aGk sz (show k+1<=i by omega);grind
  rw [uo (enc x) w (k*sz) (by rw [hs];exact hcase),(hc j hj).1,aFq Aaa]
def jW {α:Type} (mk:Nat->α) (c s:Nat) (l:List α) (k:Nat):List α:=(List.range k).map (λi=>mk (s+c*i))++l.drop k
theorem fD {α:Type} (mk:Nat->α) (c s:Nat) (l:List α) (k:Nat) (hk:k<=l.length):(jW mk c s l k).length=l.length:=by simp[jW];omega
theorem acT {α:Type} (mk:Nat->α) (c s:Nat) (l:List α):jW mk c s l 0=l:=by simp[jW]
theorem xO {α:Type} (mk:Nat->α) (c s:Nat) (l:List α) (k:Nat) (hk:k < l.length):(jW mk c s l k).set k (mk (s+c*k))=jW mk c s l (k+1):=by
 have e:l.drop k=l[k]::l.drop (k+1):=aFD hk;unfold jW;rw [e,aGg _ _ Aac];simp only[aFQ,List.length_range,Nat.sub_self,List.set_cons_zero,aGV,List.map_append,List.map_cons,List.map_nil,aFx,List.cons_append,aF5]
theorem CB {α:Type} (mk:Nat->α) (c s:Nat) (l:List α) (n k:Nat) (hk:k < n) (hn:n<=l.length):(jW mk c s l n)[k]'(by rw [fD mk c s l n hn];omega)=mk (s+c*k):=by
 unfold jW;rw [List.getElem_append_left Ace];simp
theorem dG {α:Type} {g:Nat} {l:List α} {w w':World} (h:aA [g] w w') (hl:0 < l.length):aA (fp g l) w w':=h.mono (λx hx=>by
 have:x=g:=Aag
 rw [this]
 exact dK hl)
theorem LZ {α β:Type} {g:Nat} {l:List α} {l':List β} (h:l.length=l'.length):fp g l=fp g l':=by
 unfold fp;cases l with
 |nil=>cases l' with|nil=>rfl|cons y l'=>simp at h
 |cons x l=>cases l' with|nil=>simp at h|cons y l'=>rfl
def GR.C (w:World) (a:Option Addr) (g:Nat) (cs:List Value):Prop:=∀j (hj:j < cs.length),a=some ⟨g,0,none⟩/\g < w.heap.size/\w.cell? ⟨g,j,none⟩=some cs[j]/\w.frozen? ⟨g,j,none⟩=false
theorem GR.C.set {w:World} {a:Option Addr} {g:Nat} {cs:List Value} (h:GR.C w a g cs) (k:Nat) (v:Value):GR.C (w.setCell ⟨g,k,none⟩ v) a g (cs.set k v):=λj hj=>by
 have hj':j < cs.length:=Abd
 obtain⟨e,hg,hc,hf⟩:=h j hj';refine⟨e,by simpa [World.setCell] using hg,?_,by rw [World.frozen?_setCell];exact hf⟩;by_cases hjk:j=k
 .subst hjk;rw [aGA _ _ _ hc];simp
 .rw [aF0 _ _ _ _ (by simp<;>omega),hc,aFq Aaa]
theorem GR.C.below {w w':World} {a:Option Addr} {g:Nat} {cs:List Value} (h:GR.C w a g cs) (hb:aH w w'):GR.C w' a g cs:=λj hj=>by
 obtain⟨e,hg,hc,hf⟩:=h j hj;exact⟨e,aEZ hg hb.size,(hb.cell (p:=⟨g,j,none⟩) hg).trans hc,(hb.frozen (p:=⟨g,j,none⟩) hg).trans hf⟩
theorem GR.W.toC {α:Type} {enc:α->List Value} {sz:Nat} {w:World} {a:Option Addr} {g:Nat} {l:List α} (hs:∀x,(enc x).length=sz) (hz:0 < sz) (h:GR.W enc sz w a g l):GR.C w a g (GR.flat enc l):=λj hj=>by
 have hj2:j < l.length*sz:=by rwa [GR.flat_length enc sz hs] at hj
 have hq:j / sz < l.length:=Nat.div_lt_of_lt_mul (by rw [aGL];exact hj2);have hr:j % sz < sz:=Nat.mod_lt _ hz;have ej:j / sz*sz+j % sz=j:=Nat.div_add_mod' j sz;obtain⟨e,hg,hc⟩:=h (j / sz) hq;obtain⟨h1,h2⟩:=hc (j % sz) hr;have hf:=GR.flat_at enc sz hs l (j / sz) hq (j % sz) hr;rw [ej] at h1 h2 hf;exact⟨e,hg,by rw [h1,<-hf,aEV hj],h2⟩
theorem GR.C.toW {α:Type} {enc:α->List Value} {sz:Nat} {w:World} {a:Option Addr} {g:Nat} {l:List α} (hs:∀x,(enc x).length=sz) (hz:0 < sz) (h:GR.C w a g (GR.flat enc l)):GR.W enc sz w a g l:=λi hi=>by
 have hlt:∀j,j < sz->i*sz+j < (GR.flat enc l).length:=λj hj=>by
  rw [GR.flat_length enc sz hs]
  have:=aGk sz (show i+1<=l.length by omega)
  rw [aGC,Nat.one_mul] at this
  omega
 refine⟨(h (i*sz+0) (hlt 0 hz)).1,(h (i*sz+0) (hlt 0 hz)).2.1,λj hj=>?_⟩;obtain⟨_,_,hc,hf⟩:=h (i*sz+j) (hlt j hj);refine⟨?_,hf⟩;rw [hc,<-GR.flat_at enc sz hs l i hi j hj,aEV]
theorem kV (k:Nat) (z:Int) (w:World) (hz:z=k) (h0:0 < k) (hk:(k:Int)<=9223372036854775807):
 Calls Tryz.prog 35 #[.int .i64 z] w (dU w (.string (mark k))):=by
 subst hz;exact acS k w h0 hk
theorem ak2:(Tryz.prog.info? 5).map (λi=>(i.zero,i.size,i.bytes))=some (some (.int .u8 0),1,1):=Aab
theorem vU (n:Int) (w:World) (h:n < 0\/4000000000 < n):
 Calls Tryz.prog 147 #[.int .i64 n] w λe w'=>e= .returned (.string ByteArray.empty)/\w=w':=by
 go_in
 go_wp2_with (go_at_call 47;refine(qQ _ _ _ _ h).mono ?_;rintro e w' ⟨rfl,rfl⟩)
 go_ret;exact⟨rfl,rfl⟩
theorem Ht (n:Nat) (w:World) (h:n<=4000000000):
 Calls Tryz.prog 147 #[.int .i64 n] w (dU w (.string ⟨(Mth.put n).toArray⟩)):=by
 obtain⟨i0,hi,hz0,hz1,hz2⟩:=aFt ak2;go_in
 go_wp2_with (go_at_call 47;refine(nP _ _ _ _ ?_ ?_).mono ?_;omega;omega;rintro e w' ⟨rfl,rfl⟩)
 go_loopw [0,3] (λm v wr=>∃f cur pre,f<=5/\cur<=4000000000/\cur < 128 ^ (f+1)/\pre.length+f=5/\pre++Mth.putF f cur=Mth.put n/\m= .int .i64 (cur:Nat)/\wr.ownsRow w.heap.size 5 1 v pre.length (pre.map bv)/\aH w wr) (λm _ _=>(intOf m).toNat)
 case atStart=>exact⟨5,n,[],Aaa,Aaa,Aaa,rfl,rfl,rfl,aFC _ #[] 0 (aER _) Aae rfl,(aE3 _ _).alloc (aER _) _⟩
 case round=>
  obtain⟨f,cur,pre,hf,hc9,hcur,hpf,hput,rfl,hown,hbel⟩:=hrel;have HP:=Hq hput;clear hput;by_cases hbig:cur<=127
  .have HE:=Hq (Mth.put_end n f cur pre hbig HP);go_wp2_with (at_builtin;refine aFL _ rfl _ _ 127 rfl w.heap.size 5 i0 (.int .u8 0) 1 1 Tryz.underlying127 hi hz0 hz1 hz2 rfl Aae _ _ _ rfl (hown.alloc _) ⟨wr.heap.size,0,none⟩ 1 1 [.int .u8 (cur:Int)] rfl rfl ?c1 ?c2 ?c3 ?c4 ?c5 ?_)
   case c1=>exact cell_one_new _ _ _
   case c2=>intro u hu;simp at hu;subst hu;rfl
   case c3=>unfold maxLen;omega
   case c4=>omega
   case c5=>have:=hbel.size;simp;omega
   intro v' w1 hown' hgrow _;have Pz:=below_append hbel hown hgrow;have hown2:=QA (UInt8.ofNat cur) (by rw [Mth.toNat_byte _ Aaa]) hown';rw [ah HE] at hown2;have abS:=TJ 127 9 Tryz.underlying127 Tryz.underlying5 Tryz.underlying9 hown2;clear hown' hgrow hown hown2 hbel HE;go_wp2
   go_ret;exact⟨rfl,Pz⟩
  .obtain⟨f',rfl,hc2,hl2,hp2⟩:=Mth.put_round n f cur pre hcur hbig hpf HP;have rF:=Hq hp2;clear hp2 HP;go_wp2_with (at_builtin;refine aFL _ rfl _ _ 127 rfl w.heap.size 5 i0 (.int .u8 0) 1 1 Tryz.underlying127 hi hz0 hz1 hz2 rfl Aae _ _ _ rfl (hown.alloc _) ⟨wr.heap.size,0,none⟩ 1 1 [.int .u8 (128+(cur:Int) % 128)] rfl rfl ?d1 ?d2 ?d3 ?d4 ?d5 ?_)
   case d1=>exact cell_one_new _ _ _
   case d2=>intro u hu;simp at hu;subst hu;rfl
   case d3=>unfold maxLen;omega
   case d4=>omega
   case d5=>have:=hbel.size;simp;omega
   intro v' w1 hown' hgrow _;have Pz:=below_append hbel hown hgrow;have hown2:=QA (UInt8.ofNat (128+cur % 128)) (by rw [Mth.toNat_byte _ Aaa];omega) hown';clear hown' hgrow hown hbel;go_wp2
   go_roundw
   case rel=>exact⟨f',cur / 128,_,Aaa,Aaa,hc2,hl2,rF,Aaf,hown2,Pz⟩
   case measure=>simp[intOf];omega
theorem xu (n:Int) (w:World) (h0:0<=n) (h:n<=4000000000):
 Calls Tryz.prog 147 #[.int .i64 n] w (dU w (.string ⟨(Mth.put n.toNat).toArray⟩)):=by
 obtain⟨m,rfl⟩:=Int.eq_ofNat_of_zero_le h0;exact Ht m w Aaa
def wO (o:Option (Nat×Nat)) (i:Int):Value:=
 match o with
 |none=> .tuple #[.int .i64 0,.int .i64 (-1)]
 |some (n,c)=> .tuple #[.int .i64 n,.int .i64 (i+c)]
theorem get_some {G:Option (Nat×Nat)} {i a b:Int} {n c:Nat} (hG:G=some (n,c)) (ha:a=n) (hb:b=i+c):Ending.returned (.tuple #[.int .i64 a,.int .i64 b])= .returned (wO G i):=by
 subst hG;subst ha;subst hb;rfl
theorem get_none {G:Option (Nat×Nat)} {i:Int} (hG:G=none):Ending.returned (.tuple #[.int .i64 0,.int .i64 (-1)])= .returned (wO G i):=by
 subst hG;rfl
theorem Aq (s:ByteArray) (i j k:Nat) (hk:k=i+j) (hlt:k < s.size):(s.extract i (k+1)).toList=(s.data.toList.drop i).take j++[s[k]]:=by
 subst hk;rw [aGp];have e:i+j+1 - i=j+1:=Aaa
 rw [e,aE0 (by simp;show j < s.size - i;omega)];simp;rfl
theorem adK {j v:Nat} (h:rA j v):v=128 ^ j:=by
 unfold rA at h;rcases h with⟨rfl,rfl⟩|⟨rfl,rfl⟩|⟨rfl,rfl⟩|⟨rfl,rfl⟩|⟨rfl,rfl⟩|⟨rfl,rfl⟩<;>rfl
def zw (s:ByteArray) (i j m:Nat):Prop:=((s.data.toList.drop i).take j).length=j/\(∀c∈(s.data.toList.drop i).take j,128<=c.toNat)/\m=Mth.val ((s.data.toList.drop i).take j)
theorem adi (s:ByteArray) (i:Nat):zw s i 0 0:=⟨Aac,Aac,by simp[Mth.val]⟩
theorem xV (s:ByteArray) (i j k:Nat) (hk:k=i+j) (hlt:k < s.size):(s.data.toList.drop i).take (j+1)=(s.data.toList.drop i).take j++[s[k]]:=by
 have h:=Aq s i j k hk hlt;rw [aGp] at h;have e:k+1 - i=j+1:=Aaa
 rw [e] at h;exact h
theorem RH (s:ByteArray) (i j k m v:Nat) (hk:k=i+j) (hlt:k < s.size) (hu:rA j v) (h:zw s i j m):Mth.val ((s.data.toList.drop i).take (j+1))=m+s[k].toNat % 128*v:=by
 rw [xV s i j k hk hlt,Mth.val_snoc,h.1,<-h.2.2,adK hu]
theorem Zj (s:ByteArray) (i j k m v:Nat) (hk:k=i+j) (hlt:k < s.size) (hu:rA j v) (hb:128<=s[k].toNat) (h:zw s i j m):zw s i (j+1) (m+s[k].toNat % 128*v):=by
 refine⟨?_,?_,(RH s i j k m v hk hlt hu h).symm⟩
 .rw [xV s i j k hk hlt,aEW,h.1];rfl
 .intro c hc;rw [xV s i j k hk hlt,aFb] at hc;rcases hc with hc|hc
  .exact h.2.1 c hc
  .simp at hc;subst hc;exact hb
theorem aeS (s:ByteArray) (i j k m v:Nat) (hk:k=i+j) (hlt:k < s.size) (hu:rA j v) (hj:j < 5) (hb:¬128<=s[k].toNat) (h:zw s i j m) (hz:s[k].toNat≠0\/j=0):
 Mth.put (m+s[k].toNat*v)=(s.extract i (k+1)).toList:=by
 have e:m+s[k].toNat*v=Mth.val ((s.data.toList.drop i).take j++[s[k]]):=by
  exact aiT
 rw [e,Aq s i j k hk hlt]
 exact Mth.putF_val _ _ Aaa 5 (by rw [h.1];omega) h.2.1 (by
  rcases hz with hz|hz
  .exact .inl hz
  .subst hz;exact .inr Aac)
theorem akp (s:ByteArray) (i j k m v:Nat) (hk:k=i+j) (hlt:k < s.size) (hu:rA j v) (hj:j < 5) (h:zw s i j m) (hz:s[k].toNat=0) (hj0:0 < j):
 Mth.put (m+s[k].toNat*v)≠(s.extract i (k+1)).toList:=by
 have e:m+s[k].toNat*v=Mth.val ((s.data.toList.drop i).take j++[s[k]]):=by
  exact aiT
 rw [e,Aq s i j k hk hlt];exact Mth.putF_nought _ _ hz (by intro hn;have:=h.1;rw [hn] at this;simp at this;omega) 5 (by rw [h.1];omega)
theorem GU (s:ByteArray) (i:Int) (w:World) (h:i < 0):Calls Tryz.prog 123 #[.string s,.int .i64 i] w λe w'=>e= .returned (wO none i)/\w=w':=by
 have h0:decide (0<=i)=false:=Aah
 go_in
 go_wp2
 refine wp_loop_rounds 1 ?_;rw [rounds_succ];go_wp2
 go_ret2
 exact⟨rfl,rfl⟩
theorem Yb {a b:List UInt8} (h:a=b):(a == b)=true:=by simp[h]
theorem Kr {a b:List UInt8} (h:a≠b):(a == b)=false:=by simp[h]
theorem UZ (s:ByteArray) (i:Nat) (w:World) (hs:s.size<=maxLen):Calls Tryz.prog 123 #[.string s,.int .i64 i] w (dU w (wO (Mth.get s.data.toList i) i)):=by
 unfold maxLen at hs;go_in
 go_wp2
 go_loop [6,7,8] (λn u a=>∃j m v k:Nat,rA j v/\m < v/\n= .int .i64 m/\u= .int .i64 v/\a= .int .i64 k/\k=i+j/\zw s i j m/\Mth.getF (5 - j) (s.data.toList.drop k) m v j=Mth.get s.data.toList i) (λ_ _ a=>s.size - (intOf a).toNat)
 case atStart=>exact⟨0,0,1,i,.inl ⟨rfl,rfl⟩,Aaa,rfl,rfl,rfl,rfl,adi s i,rfl⟩
 case round=>
  obtain⟨j,m,v,k,hu,hm,rfl,rfl,rfl,hk,hread,hget⟩:=hrel;have HG:=Hq hget;have HK:=Hq hk;have Et:=Hq hread;have aD3:(k:Int) - (i:Int)<=j:=Aaa
  have aD4:(j:Int)<=(k:Int) - (i:Int):=Aaa
  clear hget hk hread;obtain⟨hv1,hv2,hu2,hv5⟩:=Xp hu;have HU0:=Hq hu;by_cases hlt:k < s.size
  .by_cases hj:j < 5
   .open arx in exact axl
   .obtain⟨rfl,ayF⟩:=hv5 hj;have HR:=Hq (Mth.get_full _ _ _ _ HG);exact aiV
  .have HR:=Hq (Mth.get_end s k _ m _ _ hlt HG);exact aiV
def iB (s:ByteArray) (i:Int):Option (Nat×Nat):=if i < 0 then none else Mth.get s.data.toList i.toNat
theorem Cm (s:ByteArray) (i:Int) (h:i < 0):iB s i=none:=by simp[iB,h]
theorem xH (s:ByteArray) (n:Nat):iB s n=Mth.get s.data.toList n:=by
 unfold iB;rw [aE2 Aaa];rfl
theorem ac4 (s:ByteArray) (i:Int) (w:World) (hs:s.size<=maxLen):Calls Tryz.prog 266 #[.string s,.int .i64 i] w λe w'=>e= .returned (sU (iB s i) i)/\w=w':=by
 by_cases h:i < 0
 .rw [Cm s i h];exact Y7 s i w h
 .obtain⟨n,rfl⟩:=Int.eq_ofNat_of_zero_le (show 0<=i by omega);rw [xH];exact azn s n w hs
theorem Dy (s:ByteArray) (i:Int) (w:World) (hs:s.size<=maxLen):Calls Tryz.prog 123 #[.string s,.int .i64 i] w (dU w (wO (iB s i) i)):=by
 by_cases h:i < 0
 .rw [Cm s i h];exact(GU s i w h).mono λe w' ⟨he,hw⟩=>⟨he,hw▸aE3 _ _⟩
 .obtain⟨n,rfl⟩:=Int.eq_ofNat_of_zero_le (show 0<=i by omega);rw [xH];exact UZ s n w hs
theorem PZ (s:ByteArray) (i:Int) (w:World) (hs:s.size<=maxLen) (hH:Handle w):Calls Tryz.prog 269 #[.string s,.int .i64 i] w (dU w (wO (iB s i) i)):=by
 have HN:=Hq (λw1=>ac4 s i w1 hs);have HH:=Hq hH;clear hH;cases hG:iB s i with
 |none=>
  rw [hG] at HN;go_in
  go_wp2_with (first|(go_at_call 266;refine(HN _).mono ?_;rintro e w' ⟨rfl,rfl⟩;simp only[sU])|(go_at_call 230;refine(Qn _ _ HH).mono ?_;rintro e w' ⟨rfl,hbel⟩))
  go_ret2
  exact⟨rfl,hbel⟩
 |some p=>
  obtain⟨n,c⟩:=p;rw [hG] at HN;go_in
  go_wp2_with (first|(go_at_call 266;refine(HN _).mono ?_;rintro e w' ⟨rfl,rfl⟩;simp only[sU])|(go_at_call 230;refine(Qm _).mono ?_;rintro e w' ⟨rfl,hbel⟩))
  go_ret2
  exact⟨rfl,hbel⟩
def EH (o:Option (ByteArray×Nat)):Value:=
 match o with
 |none=> .tuple #[.string ByteArray.empty,.int .i64 (-1)]
 |some (t,b)=> .tuple #[.string t,.int .i64 b]
def textOf (s:ByteArray) (i:Nat) (o:Option (Nat×Nat)):Option (ByteArray×Nat):=
 match o with
 |none=>none
 |some (n,c)=>if 1000 < n\/s.size - (i+c) < n then none else some (s.extract (i+c) (i+c+n),i+c+n)
theorem uQ {s:ByteArray} {i:Int} {n c:Nat} (h:iB s i=some (n,c)):∃k:Nat,i=k/\Mth.get s.data.toList k=some (n,c)/\n<=4000000000/\k+c<=s.size:=by
 by_cases h0:i < 0
 .rw [Cm s i h0] at h;cases h
 .obtain⟨k,rfl⟩:=Int.eq_ofNat_of_zero_le (show 0<=i by omega);have h':iB s (k:Int)=some (n,c):=h;rw [xH] at h';have hb:=Mth.get_bound _ _ _ _ h';rw [bf] at hb;exact⟨k,rfl,h',hb.1,hb.2.2.2⟩
theorem Rj (s:ByteArray) (i:Int) (w:World) (hs:s.size<=maxLen):Calls Tryz.prog 94 #[.string s,.int .i64 i] w (dU w (EH (textOf s i.toNat (iB s i)))):=by
 have HS:=Hq (λw1=>Dy s i w1 hs);unfold maxLen at hs;cases hG:iB s i with
 |none=>
  rw [hG] at HS;open au0 in exact aaR
 |some p=>
  obtain⟨n,c⟩:=p;obtain⟨k,rfl,_,hn,hk⟩:=uQ hG;rw [hG] at HS;by_cases hbad:1000 < n\/s.size - (k+c) < n
  .have HR:Hid (textOf s k (some (n,c))=none):=by unfold textOf;exact aFc hbad
   rw [aFX];by_cases h1:1000 < n
   .exact ahL
   .have h2:(s.size:Int) - ((k:Int)+(c:Int)) < (n:Int):=Aaa
    exact ahL
  .open atH in exact agM
def NV (o:Option (Nat×Nat)) (i:Int):Value:=
 match o with
 |none=> .iface 287 (.agg #[.iface 287 (.agg #[.iface 289 (.agg #[.int .i64 i])])])
 |some _=> .iface 287 (.agg #[.iface 289 (.agg #[.int .i64 i])])
def uz (t:Option (ByteArray×Nat)) (o:Option (Nat×Nat)) (i:Int):Value:=
 match t with
 |none=> .tuple #[.string ByteArray.empty,.int .i64 0,NV o i]
 |some (x,b)=> .tuple #[.string x,.int .i64 b,.nilIface]
theorem aln (s:ByteArray) (i:Int) (w:World) (hs:s.size<=maxLen):Calls Tryz.prog 229 #[.string s,.int .i64 i] w (dU w (uz (textOf s i.toNat (iB s i)) (iB s i) i)):=by
 have HS:=Hq (λw1=>ac4 s i w1 hs);unfold maxLen at hs;cases hG:iB s i with
 |none=>
  rw [hG] at HS;go_in
  go_wp2_with (go_at_call 266;refine(HS _).mono ?_;rintro e w1 ⟨rfl,rfl⟩;simp only[sU])
  go_ret3
  exact⟨rfl,aE3 _ _⟩
 |some p=>
  obtain⟨n,c⟩:=p;obtain⟨k,rfl,_,hn,hk⟩:=uQ hG;rw [hG] at HS;by_cases hbad:1000 < n\/s.size - (k+c) < n
  .have HR:Hid (textOf s k (some (n,c))=none):=by unfold textOf;exact aFc hbad
   rw [aFX];by_cases h1:1000 < n
   .exact ayb
   .have h2:(s.size:Int) - ((k:Int)+(c:Int)) < (n:Int):=Aaa
    exact ayb
  .open atI in exact agM
theorem P5 (s:ByteArray) (i:Int) (w:World) (hs:s.size<=maxLen) (hH:Handle w):Calls Tryz.prog 210 #[.string s,.int .i64 i] w (dU w (EH (textOf s i.toNat (iB s i)))):=by
 have HN:=Hq (λw1=>aln s i w1 hs);have HH:=Hq hH;clear hH;cases hT:textOf s i.toNat (iB s i) with
 |none=>
  rw [hT] at HN;cases hG:iB s i with
  |none=>
   rw [hG] at HN;go_in
   go_wp2_with (first|(go_at_call 229;refine(HN _).mono ?_;rintro e w1 ⟨rfl,hb1⟩;simp only[uz,NV])|(go_at_call 230;refine(acz _ _ (HH.below hb1)).mono ?_;rintro e w2 ⟨rfl,hb2⟩))
   exact abe
  |some p=>
   rw [hG] at HN;go_in
   go_wp2_with (first|(go_at_call 229;refine(HN _).mono ?_;rintro e w1 ⟨rfl,hb1⟩;simp only[uz,NV])|(go_at_call 230;refine(Qn _ _ (HH.below hb1)).mono ?_;rintro e w2 ⟨rfl,hb2⟩))
   exact abe
 |some p=>
  obtain⟨x,b⟩:=p;rw [hT] at HN;go_in
  go_wp2_with (first|(go_at_call 229;refine(HN _).mono ?_;rintro e w1 ⟨rfl,hb1⟩;simp only[uz])|(go_at_call 230;refine(Qm _).mono ?_;rintro e w2 ⟨rfl,hb2⟩))
  exact abe
def rY (s:ByteArray):ByteArray:=⟨(Mth.put s.size++s.data.toList).toArray⟩
theorem aeK (s:ByteArray):(⟨(Mth.put s.size).toArray⟩:ByteArray)++s=rY s:=by
 apply aF8
 simp[rY]
theorem CX (s:ByteArray) (w:World) (h:1000 < s.size):
 Calls Tryz.prog 151 #[.string s] w λe w'=>e= .returned (.string ByteArray.empty)/\w=w':=by
 go_in
 go_wp2
 go_ret;exact⟨rfl,rfl⟩
theorem Rp (s:ByteArray) (w:World) (h:s.size<=1000):
 Calls Tryz.prog 151 #[.string s] w (dU w (.string (rY s))):=by
 have hl:=Mth.put_length s.size;have hadd:=λw1=>aFY (P:=Tryz.prog) w1 ⟨(Mth.put s.size).toArray⟩ s (by rw [size_of_list];omega)
 simp only[aeK] at hadd;go_in
 go_wp2_with (go_at_call 147;refine(Ht s.size _ Aaa).mono ?_;rintro e w' ⟨rfl,hbel⟩)
 go_ret;exact⟨rfl,by assumption⟩
def mQ (n:Int):ByteArray:=if 0<=n/\n<=4000000000 then⟨(Mth.put n.toNat).toArray⟩ else ByteArray.empty
theorem lV (n:Int) (w:World):Calls Tryz.prog 147 #[.int .i64 n] w (dU w (.string (mQ n))):=by
 unfold mQ;by_cases h:0<=n/\n<=4000000000
 .rw [aFc h];exact xu n w h.1 h.2
 .rw [aE2 h];exact(vU n w Aaa).mono λe w' ⟨he,hw⟩=>⟨he,hw▸aE3 _ _⟩
def pQ (s:ByteArray):ByteArray:=if s.size<=1000 then rY s else ByteArray.empty
theorem xA (s:ByteArray) (w:World):Calls Tryz.prog 151 #[.string s] w (dU w (.string (pQ s))):=by
 unfold pQ;by_cases h:s.size<=1000
 .rw [aFc h];exact Rp s w h
 .rw [aE2 h];exact(CX s w Aaa).mono λe w' ⟨he,hw⟩=>⟨he,hw▸aE3 _ _⟩
theorem nU (n:Int):(mQ n).size<=6:=by
 unfold mQ;split
 .rw [size_of_list];exact Mth.put_length _
 .decide
theorem CR (x:ByteArray):(pQ x).size<=1006:=by
 unfold pQ;split
 .unfold rY;rw [size_of_list,aEW,bf];have:=Mth.put_length x.size;omega
 .decide
def alb (o:Option (Nat×Nat)):Int:=match o with|none=>0|some (n,_)=>n
def afy (o:Option (Nat×Nat)) (i:Int):Int:=match o with|none=> -1|some (_,c)=>i+c
theorem FH (o:Option (Nat×Nat)) (i:Int):wO o i= .tuple #[.int .i64 (alb o),.int .i64 (afy o i)]:=by cases o<;>rfl
def ZR (o:Option (ByteArray×Nat)):ByteArray:=match o with|none=>ByteArray.empty|some (t,_)=>t
def Rz (o:Option (ByteArray×Nat)):Int:=match o with|none=> -1|some (_,b)=>b
theorem DC (o:Option (ByteArray×Nat)):EH o= .tuple #[.string (ZR o),.int .i64 (Rz o)]:=by cases o<;>rfl
theorem Gu {s:ByteArray} {i:Int} {n c:Nat} (h:iB s i=some (n,c)):∃k:Nat,i=k/\k+c<=s.size/\0 < c/\n<=4000000000/\(mQ n).toList=(s.extract k (k+c)).toList:=by
 obtain⟨k,rfl,hg,hn,hk⟩:=uQ h;have hb:=Mth.get_bound _ _ _ _ hg;refine⟨k,rfl,hk,hb.2.1,hn,?_⟩;unfold mQ;rw [aFc Aaa,aFX,ByteArray.toList_mk,aGp,Mth.get_was_put _ _ _ _ hg];congr 1;omega
theorem Zk {s:ByteArray} {i:Int} {t:ByteArray} {e:Nat} (h:textOf s i.toNat (iB s i)=some (t,e)):∃k:Nat,i=k/\k < e/\e<=s.size/\t.size<=1000/\(pQ t).toList=(s.extract k e).toList:=by
 cases hG:iB s i with
 |none=>rw [hG] at h;simp[textOf] at h
 |some p=>
  obtain⟨n,c⟩:=p;obtain⟨k,rfl,hk,hc,hn,hput⟩:=Gu hG;rw [hG,aFX] at h;unfold textOf at h;simp only at h;split at h
  .cases h
  .rename_i hbad
   simp only[aGh,Prod.mk.injEq] at h;obtain⟨rfl,rfl⟩:=h;have hsz:(s.extract (k+c) (k+c+n)).size=n:=by rw [aGw];omega
   refine⟨k,rfl,Aaa,Aaa,Aaa,?_⟩;unfold pQ;rw [aFc Aaa];unfold rY;rw [ByteArray.toList_mk,hsz]
   have e1:Mth.put n=(s.extract k (k+c)).toList:=by
    rw [<-hput];unfold mQ;rw [aFc Aaa,aFX,ByteArray.toList_mk]
   rw [e1,aGp,aGl,aGp];have h1:k+c - k=c:=Aaa
   have h2:k+c+n - (k+c)=n:=Aaa
   have h3:k+c+n - k=c+n:=Aaa
   rw [h1,h2,h3,<-List.drop_drop,List.take_add]
structure HW (w:World) (P:World->Prop) (X:World):Prop where
 b:aH w X
 p:∀Y,aH X Y->P Y
theorem HW.step {w X Y:World} {P:World->Prop} (h:HW w P X) (hb:aH X Y):HW w P Y:=⟨h.b.trans (hb.mono h.b.size),λZ hz=>h.p Z (hb.trans (hz.mono hb.size))⟩
theorem HW.add {w X:World} {P:World->Prop} (h:HW w P X) (N:World->Prop) (hN:∀Y,aH X Y->N Y):HW w (λY=>P Y/\N Y) X:=⟨h.b,λY hy=>⟨h.p Y hy,hN Y hy⟩⟩
theorem HW.now {w X:World} {P:World->Prop} (h:HW w P X):P X:=h.p X (aE3 _ _)
end Go.Proofs.YtbolgdleijjgfaaGreatDoor
