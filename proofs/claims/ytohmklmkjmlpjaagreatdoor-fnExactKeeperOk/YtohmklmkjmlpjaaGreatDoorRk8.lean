/- Parts. -/
import Derived.Test.YtohmklmkjmlpjaaGreatDoorRk4
namespace Go.Proofs.YtohmklmkjmlpjaaGreatDoor
open Go.Proofs.Tryz
set_option maxHeartbeats 4000000
namespace GR
open Go.RowKit
variable {α:Type} {enc:α->List Value} {sz:Nat}
theorem At.news {w:World} {x:Addr} {l:List α} (hs:∀y,(enc y).length=sz) (hz:0 < sz) (h:At enc sz w (some x) l):∀j u,(flat enc l)[j]?=some u->w.cell? (x.add j)=some u:=by
 intro j u hu
 have hj:j < l.length*sz:=by
  have:=(List.getElem?_eq_some_iff.1 hu).1;rwa [flat_length enc sz hs] at this
 have hq:j / sz < l.length:=Nat.div_lt_of_lt_mul (by rw [Nat.mul_comm];exact hj);have hr:j % sz < sz:=Nat.mod_lt _ hz;obtain⟨g,off,e,hg,hc⟩:=h (j / sz) hq;have hf:=flat_at enc sz hs l (j / sz) hq (j % sz) hr;have ej:j / sz*sz+j % sz=j:=Nat.div_add_mod' j sz;rw [ej] at hf;have h2:=hc (j % sz) hr;exact aiZ
theorem flat_oneCell (h1:∀y,∀u∈enc y,u.oneCell'=true) (l:List α):∀u∈flat enc l,u.oneCell'=true:=by
 intro u hu;unfold flat at hu;rw [List.mem_flatMap] at hu;obtain⟨p,_,hp⟩:=hu;exact h1 p u hp
theorem own_below {w w':World} {B:Nat} {e:TypeId} {sz:Nat} {v:Value} {n:Nat} {xs:List Value} (h:w.ownsRow B e sz v n xs) (hb:aI w w'):w'.ownsRow B e sz v n xs:=
 h.kept (row:=none) ⟨hb.os,hb.tape,hb.output,hb.size,λk hk _=>hb.block k hk⟩ (by cases v.ownBlock with|none=>exact .inl rfl|some k=>exact .inr (by simp))
theorem own_lower {w:World} {b b':Nat} {e:TypeId} {sz:Nat} {v:Value} {n:Nat} {xs:List Value} (h:w.ownsRow b e sz v n xs) (hb:b'<=b):w.ownsRow b' e sz v n xs:=by
 exact ajj
theorem below_append {w wr w1:World} {B:Nat} {e:TypeId} {sz:Nat} {v:Value} {n:Nat} {xs:List Value} {o:Obj} (hb:Below B w wr) (hB:B<=wr.heap.size) (hown:wr.ownsRow B e sz v n xs) (hg:(wr.alloc o).grownBy w1 v.ownBlock):Below B w w1:=
 (hb.alloc hB o).grown hg Aag (λk hk=>(hown.lt k hk).1)
theorem none_nil {w:World} {l:List α} (h:At enc sz w none l):l=[]:=by
 cases l with
 |nil=>rfl
 |cons y l=>
  obtain⟨g,off,e,_⟩:=h 0 Aac;cases e
end GR
open Go.RowKit
open Mth
theorem aA {w:World} {g:Nat} {o:Obj} (h:w.heap[g]?=some o):g < w.heap.size:=by
 exact aaU
structure aC (F:List Nat) (w w':World):Prop where
 os:w'.os=w.os
 tape:w'.tape=w.tape
 output:w'.output=w.output
 size:w.heap.size<=w'.heap.size
 block:∀k,k < w.heap.size->k∉F->w'.heap[k]?=w.heap[k]?
theorem aC.refl (F:List Nat) (w:World):aC F w w:=⟨rfl,rfl,rfl,Nat.le_refl _,λ_ _ _=>rfl⟩
theorem aC.trans {F:List Nat} {a b c:World} (h:aC F a b) (k:aC F b c):aC F a c:=
 ⟨k.os.trans h.os,k.tape.trans h.tape,k.output.trans h.output,Nat.le_trans h.size k.size,λi hi hg=>(k.block i (Nat.lt_of_lt_of_le hi h.size) hg).trans (h.block i hi hg)⟩
theorem aC.mono {F F':List Nat} {a b:World} (h:aC F a b) (hs:∀x∈F,x∈F'):aC F' a b:=
 ⟨h.os,h.tape,h.output,h.size,λi hi hg=>h.block i hi (λhx=>hg (hs i hx))⟩
theorem aC.of_below {F:List Nat} {w w':World} (h:aI w w'):aC F w w':=⟨h.os,h.tape,h.output,h.size,λk hk _=>h.block k hk⟩
theorem aC.set {g i:Nat} {w:World} (v:Value):aC [g] w (w.setCell ⟨g,i,none⟩ v):=
 ⟨rfl,rfl,rfl,Aar,λk _ hg=>Below.heap_setCell _ _ _ _ (by simpa using hg)⟩
theorem aC.below {F:List Nat} {B:Nat} {w w':World} (h:aC F w w') (hB:∀x∈F,B<=x) (hs:B<=w.heap.size):Below B w w':=
 ⟨h.os,h.tape,h.output,h.size,λk hk=>h.block k Aaa (λhx=>by have:=hB k hx;omega)⟩
theorem aC.obj {F:List Nat} {w w':World} {g:Nat} {o:Obj} (hk:aC F w w') (h:w.heap[g]?=some o) (hg:g∉F):w'.heap[g]?=some o:=by
 rw [hk.block g (aA h) hg];exact h
def fp {α:Type} (g:Nat) (l:List α):List Nat:=if l.isEmpty then[] else[g]
theorem eG {α:Type} {g:Nat} {l:List α} (h:0 < l.length):g∈fp g l:=by
 unfold fp;cases l with
 |nil=>simp at h
 |cons x l=>simp
theorem eD {α:Type} {g x:Nat} {l:List α} (h:x∈fp g l):x=g/\0 < l.length:=by
 unfold fp at h;cases l with
 |nil=>simp at h
 |cons y l=>simpa using h
theorem jr {α:Type} (g:Nat) (l:List α):(fp g l).Nodup:=by unfold fp;split<;>simp
namespace GR
variable {α:Type}
def W (enc:α->List Value) (sz:Nat) (w:World) (a:Option Addr) (g:Nat) (l:List α):Prop:=∀i (hi:i < l.length),a=some ⟨g,0,none⟩/\g < w.heap.size/\∀j,j < sz->w.cell? ⟨g,i*sz+j,none⟩=(enc l[i])[j]?/\w.frozen? ⟨g,i*sz+j,none⟩=false
variable {enc:α->List Value} {sz:Nat}
theorem W.at {w:World} {a:Option Addr} {g:Nat} {l:List α} (h:W enc sz w a g l):At enc sz w a l:=λi hi=>
 ⟨g,0,(h i hi).1,(h i hi).2.1,λj hj=>by rw [Nat.zero_add];exact((h i hi).2.2 j hj).1⟩
theorem W.of_blk {w:World} {t:TypeId} {g:Nat} {l:List α} (hs:∀x,(enc x).length=sz) (h:Blk enc t w g l):W enc sz w (some ⟨g,0,none⟩) g l:=λi hi=>
 ⟨rfl,Blk.lt h,λj hj=>⟨Blk.cell h hs i hi j hj,Blk.free h _⟩⟩
theorem W.nil {w:World} {a:Option Addr} {g:Nat}:W enc sz w a g []:=λi hi=>by simp at hi
theorem W.keeps {F:List Nat} {w w':World} {a:Option Addr} {g:Nat} {l:List α} (h:W enc sz w a g l) (hk:aC F w w') (hd:∀x∈fp g l,x∉F):W enc sz w' a g l:=λi hi=>by
 obtain⟨e,hg,hc⟩:=h i hi;have hne:g∉F:=hd g (eG Aaa);exact aiL
theorem W.below {w w':World} {a:Option Addr} {g:Nat} {l:List α} (h:W enc sz w a g l) (hb:aI w w'):W enc sz w' a g l:=h.keeps (F:=[]) (aC.of_below hb) (λ_ _=>Aac)
theorem W.of_own {w:World} {B:Nat} {t:TypeId} {v:Value} {l:List α} (hs:∀x,(enc x).length=sz) (h:w.ownsRow B t sz v l.length (flat enc l)):∃a c g,v= .slice a l.length c/\W enc sz w a g l/\(∀x∈fp g l,B<=x/\x < w.heap.size)/\(∀x∈fp g l,v.ownBlock=some x):=by
 obtain⟨a,c,rfl,hat⟩:=own_at hs h;rcases h.2 with⟨hv,hn⟩|⟨g,cap,cur,hv,hg,hblk,_⟩
 .have hl:l=[]:=List.eq_nil_of_length_eq_zero hn;subst hl;exact⟨_,_,0,rfl,W.nil,λx hx=>by simp[fp] at hx,λx hx=>by simp[fp] at hx⟩
 .cases hv
  refine⟨_,_,g,rfl,λi hi=>?_,λx hx=>?_,λx hx=>?_⟩
  .exact aiN
  .rw [(eD hx).1];exact⟨hg,aA hblk⟩
  .rw [(eD hx).1];rfl
end GR
theorem sH {g k:Nat}:∀(vs:List Value) (w:World) (o:Nat),k < o\/o+vs.length<=k->(GR.setW w g o vs).cell? ⟨g,k,none⟩=w.cell? ⟨g,k,none⟩:=by
 exact aix
theorem Dp {g:Nat}:∀(vs:List Value) (w:World) (o:Nat),(∀j,j < vs.length->∃v,w.cell? ⟨g,o+j,none⟩=some v)->∀j,j < vs.length->(GR.setW w g o vs).cell? ⟨g,o+j,none⟩=vs[j]?:=by
 intro vs;induction vs with
 |nil=>intro w o _ j hj;simp at hj
 |cons v vs ih=>
  intro w o h j hj;cases j with
  |zero=>
   obtain⟨v0,hv0⟩:=h 0 Aac;rw [Nat.add_zero] at hv0 ⊢;refine(sH vs (w.setCell ⟨g,o,none⟩ v) (o+1) Aaa).trans ?_;rw [World.cell?_setCell_same _ _ _ hv0];rfl
  |succ j=>
   exact aBR
theorem Mj {g k:Nat}:∀(vs:List Value) (w:World) (o:Nat),(GR.setW w g o vs).frozen? ⟨g,k,none⟩=w.frozen? ⟨g,k,none⟩:=by
 exact ai2
theorem Ug {g:Nat}:∀(vs:List Value) (w:World) (o:Nat),(GR.setW w g o vs).heap.size=w.heap.size:=by
 exact ai8
theorem aM {g:Nat}:∀(vs:List Value) (w:World) (o:Nat),aC [g] w (GR.setW w g o vs):=by
 intro vs;induction vs with
 |nil=>intro w o;exact aC.refl _ _
 |cons v vs ih=>intro w o;exact(aC.set v).trans (ih (w.setCell ⟨g,o,none⟩ v) (o+1))
theorem GR.W.set {α:Type} {enc:α->List Value} {sz:Nat} {w:World} {a:Option Addr} {g:Nat} {l:List α} (hs:∀x,(enc x).length=sz) (h:GR.W enc sz w a g l) (k:Nat) (x:α) (hk:k < l.length):GR.W enc sz (GR.setW w g (k*sz) (enc x)) a g (l.set k x):=λi hi=>by
 have hi':i < l.length:=Aap
 obtain⟨e,hg,hc⟩:=h i hi';refine⟨e,by rw [Ug];exact hg,λj hj=>⟨?_,by rw [Mj];exact(hc j hj).2⟩⟩;by_cases hik:i=k
 .subst hik
  rw [Dp (enc x) w (i*sz) (λj' hj'=>by
   have hj4:j' < sz:=by rw [hs] at hj';exact hj'
   have h1:=(hc j' hj4).1
   rw [List.getElem?_eq_getElem (by rw [hs];exact hj4)] at h1
   exact⟨_,h1⟩) j (by rw [hs];exact hj)]
  simp
 .have hcase:i*sz+j < k*sz\/k*sz+sz<=i*sz+j:=by
   rcases Nat.lt_or_gt_of_ne hik with h'|h'
   .left
    have:=Nat.mul_le_mul_right sz (show i+1<=k by omega);exact abf
   .right
    have:=Nat.mul_le_mul_right sz (show k+1<=i by omega);exact abf
  rw [sH (enc x) w (k*sz) (by rw [hs];exact hcase),(hc j hj).1,List.getElem_set_ne Aaa]
theorem alm {α β:Type} {g:Nat} {l:List α} {l':List β} (h:l.length=l'.length):fp g l=fp g l':=by
 unfold fp;cases l with
 |nil=>cases l' with|nil=>rfl|cons y l'=>simp at h
 |cons x l=>cases l' with|nil=>simp at h|cons y l'=>rfl
def GR.C (w:World) (a:Option Addr) (g:Nat) (cs:List Value):Prop:=∀j (hj:j < cs.length),a=some ⟨g,0,none⟩/\g < w.heap.size/\w.cell? ⟨g,j,none⟩=some cs[j]/\w.frozen? ⟨g,j,none⟩=false
def vD (o:Option (Nat×Nat)) (i:Int):Value:=
 match o with
 |none=> .tuple #[.int .i64 0,.int .i64 (-1)]
 |some (n,c)=> .tuple #[.int .i64 n,.int .i64 (i+c)]
theorem get_some {G:Option (Nat×Nat)} {i a b:Int} {n c:Nat} (hG:G=some (n,c)) (ha:a=n) (hb:b=i+c):Ending.returned (.tuple #[.int .i64 a,.int .i64 b])= .returned (vD G i):=by
 subst hG;subst ha;subst hb;rfl
theorem get_none {G:Option (Nat×Nat)} {i:Int} (hG:G=none):Ending.returned (.tuple #[.int .i64 0,.int .i64 (-1)])= .returned (vD G i):=by
 subst hG;rfl
theorem zu (s:ByteArray) (i j k:Nat) (hk:k=i+j) (hlt:k < s.size):(s.extract i (k+1)).toList=(s.data.toList.drop i).take j++[s[k]]:=by
 subst hk;rw [Lib.extract_toList];have e:i+j+1 - i=j+1:=Aaa
 rw [e,List.take_succ_eq_append_getElem (by simp;show j < s.size - i;omega)];simp;rfl
theorem adA {j v:Nat} (h:qp j v):v=128 ^ j:=by
 unfold qp at h;rcases h with⟨rfl,rfl⟩|⟨rfl,rfl⟩|⟨rfl,rfl⟩|⟨rfl,rfl⟩|⟨rfl,rfl⟩|⟨rfl,rfl⟩<;>rfl
def yC (s:ByteArray) (i j m:Nat):Prop:=((s.data.toList.drop i).take j).length=j/\(∀c∈(s.data.toList.drop i).take j,128<=c.toNat)/\m=Mth.val ((s.data.toList.drop i).take j)
theorem ac7 (s:ByteArray) (i:Nat):yC s i 0 0:=⟨Aac,Aac,by simp[Mth.val]⟩
theorem jk (s:ByteArray) (i j k:Nat) (hk:k=i+j) (hlt:k < s.size):(s.data.toList.drop i).take (j+1)=(s.data.toList.drop i).take j++[s[k]]:=by
 have h:=zu s i j k hk hlt;rw [Lib.extract_toList] at h;have e:k+1 - i=j+1:=Aaa
 rw [e] at h;exact h
theorem Rb (s:ByteArray) (i j k m v:Nat) (hk:k=i+j) (hlt:k < s.size) (hu:qp j v) (h:yC s i j m):Mth.val ((s.data.toList.drop i).take (j+1))=m+s[k].toNat % 128*v:=by
 rw [jk s i j k hk hlt,Mth.val_snoc,h.1,<-h.2.2,adA hu]
theorem Yo (s:ByteArray) (i j k m v:Nat) (hk:k=i+j) (hlt:k < s.size) (hu:qp j v) (hb:128<=s[k].toNat) (h:yC s i j m):yC s i (j+1) (m+s[k].toNat % 128*v):=by
 refine⟨?_,?_,(Rb s i j k m v hk hlt hu h).symm⟩
 .rw [jk s i j k hk hlt,List.length_append,h.1];rfl
 .intro c hc;rw [jk s i j k hk hlt,List.mem_append] at hc;rcases hc with hc|hc
  .exact h.2.1 c hc
  .simp at hc;subst hc;exact hb
theorem aeR (s:ByteArray) (i j k m v:Nat) (hk:k=i+j) (hlt:k < s.size) (hu:qp j v) (hj:j < 5) (hb:¬128<=s[k].toNat) (h:yC s i j m) (hz:s[k].toNat≠0\/j=0):
 Mth.put (m+s[k].toNat*v)=(s.extract i (k+1)).toList:=by
 have e:m+s[k].toNat*v=Mth.val ((s.data.toList.drop i).take j++[s[k]]):=by
  exact ajJ
 rw [e,zu s i j k hk hlt]
 exact Mth.putF_val _ _ Aaa 5 (by rw [h.1];omega) h.2.1 (by
  rcases hz with hz|hz
  .exact .inl hz
  .subst hz;exact .inr Aac)
theorem alf (s:ByteArray) (i j k m v:Nat) (hk:k=i+j) (hlt:k < s.size) (hu:qp j v) (hj:j < 5) (h:yC s i j m) (hz:s[k].toNat=0) (hj0:0 < j):
 Mth.put (m+s[k].toNat*v)≠(s.extract i (k+1)).toList:=by
 have e:m+s[k].toNat*v=Mth.val ((s.data.toList.drop i).take j++[s[k]]):=by
  exact ajJ
 rw [e,zu s i j k hk hlt];exact Mth.putF_nought _ _ hz (by intro hn;have:=h.1;rw [hn] at this;simp at this;omega) 5 (by rw [h.1];omega)
set_option maxRecDepth 100000
theorem FQ (s:ByteArray) (i:Int) (w:World) (h:i < 0):Calls Tryz.prog 102 #[.string s,.int .i64 i] w λe w'=>e= .returned (vD none i)/\w=w':=by
 have h0:decide (0<=i)=false:=Aag
 go_in
 go_wp2
 refine wp_loop_rounds 1 ?_;rw [rounds_succ];go_wp2
 go_ret2
 exact⟨rfl,rfl⟩
theorem Xf {a b:List UInt8} (h:a=b):(a == b)=true:=by simp[h]
theorem Jy {a b:List UInt8} (h:a≠b):(a == b)=false:=by simp[h]
theorem Un (s:ByteArray) (i:Nat) (w:World) (hs:s.size<=maxLen):Calls Tryz.prog 102 #[.string s,.int .i64 i] w (eO w (vD (Mth.get s.data.toList i) i)):=by
 unfold maxLen at hs;go_in
 go_wp2
 go_loop [6,7,8] (λn u a=>∃j m v k:Nat,qp j v/\m < v/\n= .int .i64 m/\u= .int .i64 v/\a= .int .i64 k/\k=i+j/\yC s i j m/\Mth.getF (5 - j) (s.data.toList.drop k) m v j=Mth.get s.data.toList i) (λ_ _ a=>s.size - (intOf a).toNat)
 case atStart=>exact⟨0,0,1,i,.inl ⟨rfl,rfl⟩,Aaa,rfl,rfl,rfl,rfl,ac7 s i,rfl⟩
 case round=>
  obtain⟨j,m,v,k,hu,hm,rfl,rfl,rfl,hk,hread,hget⟩:=hrel;have HG:=Hq hget;have HK:=Hq hk;have DC:=Hq hread;have aHn:(k:Int) - (i:Int)<=j:=Aaa
  have aHo:(j:Int)<=(k:Int) - (i:Int):=Aaa
  clear hget hk hread;obtain⟨hv1,hv2,hu2,hv5⟩:=Ws hu;have HU0:=Hq hu;by_cases hlt:k < s.size
  .by_cases hj:j < 5
   .open auD in exact agE
   .obtain⟨rfl,aCl⟩:=hv5 hj;have HR:=Hq (Mth.get_full _ _ _ _ HG);exact ajN
  .have HR:=Hq (Mth.get_end s k _ m _ _ hlt HG);exact ajN
def iB (s:ByteArray) (i:Int):Option (Nat×Nat):=if i < 0 then none else Mth.get s.data.toList i.toNat
theorem Bp (s:ByteArray) (i:Int) (h:i < 0):iB s i=none:=by simp[iB,h]
theorem vZ (s:ByteArray) (n:Nat):iB s n=Mth.get s.data.toList n:=by
 unfold iB;rw [if_neg Aaa];rfl
theorem acU (s:ByteArray) (i:Int) (w:World) (hs:s.size<=maxLen):Calls Tryz.prog 251 #[.string s,.int .i64 i] w λe w'=>e= .returned (rD (iB s i) i)/\w=w':=by
 by_cases h:i < 0
 .rw [Bp s i h];exact Yc s i w h
 .obtain⟨n,rfl⟩:=Int.eq_ofNat_of_zero_le (show 0<=i by omega);rw [vZ];exact aCU s n w hs
theorem CB (s:ByteArray) (i:Int) (w:World) (hs:s.size<=maxLen):Calls Tryz.prog 102 #[.string s,.int .i64 i] w (eO w (vD (iB s i) i)):=by
 by_cases h:i < 0
 .rw [Bp s i h];exact(FQ s i w h).mono λe w' ⟨he,hw⟩=>⟨he,hw▸Below.refl _ _⟩
 .obtain⟨n,rfl⟩:=Int.eq_ofNat_of_zero_le (show 0<=i by omega);rw [vZ];exact Un s n w hs
theorem Pq (s:ByteArray) (i:Int) (w:World) (hs:s.size<=maxLen) (hH:Handle w):Calls Tryz.prog 254 #[.string s,.int .i64 i] w (eO w (vD (iB s i) i)):=by
 have HN:=Hq (λw1=>acU s i w1 hs);have HH:=Hq hH;clear hH;cases hG:iB s i with
 |none=>
  rw [hG] at HN;go_in
  go_wp2_with (first|(go_at_call 251;refine(HN _).mono ?_;rintro e w' ⟨rfl,rfl⟩;simp only[rD])|(go_at_call 223;refine(P5 _ _ HH).mono ?_;rintro e w' ⟨rfl,hbel⟩))
  go_ret2
  exact⟨rfl,hbel⟩
 |some p=>
  obtain⟨n,c⟩:=p;rw [hG] at HN;go_in
  go_wp2_with (first|(go_at_call 251;refine(HN _).mono ?_;rintro e w' ⟨rfl,rfl⟩;simp only[rD])|(go_at_call 223;refine(PZ _).mono ?_;rintro e w' ⟨rfl,hbel⟩))
  go_ret2
  exact⟨rfl,hbel⟩
def DX (o:Option (ByteArray×Nat)):Value:=
 match o with
 |none=> .tuple #[.string ByteArray.empty,.int .i64 (-1)]
 |some (t,b)=> .tuple #[.string t,.int .i64 b]
def textOf (s:ByteArray) (i:Nat) (o:Option (Nat×Nat)):Option (ByteArray×Nat):=
 match o with
 |none=>none
 |some (n,c)=>if 1000 < n\/s.size - (i+c) < n then none else some (s.extract (i+c) (i+c+n),i+c+n)
theorem tO {s:ByteArray} {i:Int} {n c:Nat} (h:iB s i=some (n,c)):∃k:Nat,i=k/\Mth.get s.data.toList k=some (n,c)/\n<=4000000000/\k+c<=s.size:=by
 by_cases h0:i < 0
 .rw [Bp s i h0] at h;cases h
 .obtain⟨k,rfl⟩:=Int.eq_ofNat_of_zero_le (show 0<=i by omega);have h':iB s (k:Int)=some (n,c):=h;rw [vZ] at h';have hb:=Mth.get_bound _ _ _ _ h';rw [bE] at hb;exact⟨k,rfl,h',hb.1,hb.2.2.2⟩
theorem QN (s:ByteArray) (i:Int) (w:World) (hs:s.size<=maxLen):Calls Tryz.prog 53 #[.string s,.int .i64 i] w (eO w (DX (textOf s i.toNat (iB s i)))):=by
 have HS:=Hq (λw1=>CB s i w1 hs);unfold maxLen at hs;cases hG:iB s i with
 |none=>
  rw [hG] at HS;open ayq in exact aaJ
 |some p=>
  obtain⟨n,c⟩:=p;obtain⟨k,rfl,_,hn,hk⟩:=tO hG;rw [hG] at HS;by_cases hbad:1000 < n\/s.size - (k+c) < n
  .have HR:Hid (textOf s k (some (n,c))=none):=by unfold textOf;exact if_pos hbad
   rw [Int.toNat_natCast];by_cases h1:1000 < n
   .exact aiE
   .have h2:(s.size:Int) - ((k:Int)+(c:Int)) < (n:Int):=Aaa
    exact aiE
  .open awV in exact ahm
def M7 (o:Option (Nat×Nat)) (i:Int):Value:=
 match o with
 |none=> .iface 272 (.agg #[.iface 272 (.agg #[.iface 274 (.agg #[.int .i64 i])])])
 |some _=> .iface 272 (.agg #[.iface 274 (.agg #[.int .i64 i])])
def sU (t:Option (ByteArray×Nat)) (o:Option (Nat×Nat)) (i:Int):Value:=
 match t with
 |none=> .tuple #[.string ByteArray.empty,.int .i64 0,M7 o i]
 |some (x,b)=> .tuple #[.string x,.int .i64 b,.nilIface]
theorem al9 (s:ByteArray) (i:Int) (w:World) (hs:s.size<=maxLen):Calls Tryz.prog 222 #[.string s,.int .i64 i] w (eO w (sU (textOf s i.toNat (iB s i)) (iB s i) i)):=by
 have HS:=Hq (λw1=>acU s i w1 hs);unfold maxLen at hs;cases hG:iB s i with
 |none=>
  rw [hG] at HS;go_in
  go_wp2_with (go_at_call 251;refine(HS _).mono ?_;rintro e w1 ⟨rfl,rfl⟩;simp only[rD])
  go_ret3
  exact⟨rfl,Below.refl _ _⟩
 |some p=>
  obtain⟨n,c⟩:=p;obtain⟨k,rfl,_,hn,hk⟩:=tO hG;rw [hG] at HS;by_cases hbad:1000 < n\/s.size - (k+c) < n
  .have HR:Hid (textOf s k (some (n,c))=none):=by unfold textOf;exact if_pos hbad
   rw [Int.toNat_natCast];by_cases h1:1000 < n
   .exact ail
   .have h2:(s.size:Int) - ((k:Int)+(c:Int)) < (n:Int):=Aaa
    exact ail
  .open awW in exact ahm
theorem Pt (s:ByteArray) (i:Int) (w:World) (hs:s.size<=maxLen) (hH:Handle w):Calls Tryz.prog 198 #[.string s,.int .i64 i] w (eO w (DX (textOf s i.toNat (iB s i)))):=by
 have HN:=Hq (λw1=>al9 s i w1 hs);have HH:=Hq hH;clear hH;cases hT:textOf s i.toNat (iB s i) with
 |none=>
  rw [hT] at HN;cases hG:iB s i with
  |none=>
   rw [hG] at HN;go_in
   go_wp2_with (first|(go_at_call 222;refine(HN _).mono ?_;rintro e w1 ⟨rfl,hb1⟩;simp only[sU,M7])|(go_at_call 223;refine(acv _ _ (HH.below hb1)).mono ?_;rintro e w2 ⟨rfl,hb2⟩))
   exact aa9
  |some p=>
   rw [hG] at HN;go_in
   go_wp2_with (first|(go_at_call 222;refine(HN _).mono ?_;rintro e w1 ⟨rfl,hb1⟩;simp only[sU,M7])|(go_at_call 223;refine(P5 _ _ (HH.below hb1)).mono ?_;rintro e w2 ⟨rfl,hb2⟩))
   exact aa9
 |some p=>
  obtain⟨x,b⟩:=p;rw [hT] at HN;go_in
  go_wp2_with (first|(go_at_call 222;refine(HN _).mono ?_;rintro e w1 ⟨rfl,hb1⟩;simp only[sU])|(go_at_call 223;refine(PZ _).mono ?_;rintro e w2 ⟨rfl,hb2⟩))
  exact aa9
def alY (o:Option (Nat×Nat)):Int:=match o with|none=>0|some (n,_)=>n
def afu (o:Option (Nat×Nat)) (i:Int):Int:=match o with|none=> -1|some (_,c)=>i+c
theorem EG (o:Option (Nat×Nat)) (i:Int):vD o i= .tuple #[.int .i64 (alY o),.int .i64 (afu o i)]:=by cases o<;>rfl
def YZ (o:Option (ByteArray×Nat)):ByteArray:=match o with|none=>ByteArray.empty|some (t,_)=>t
def Q9 (o:Option (ByteArray×Nat)):Int:=match o with|none=> -1|some (_,b)=>b
theorem CG (o:Option (ByteArray×Nat)):DX o= .tuple #[.string (YZ o),.int .i64 (Q9 o)]:=by cases o<;>rfl
theorem FB {s:ByteArray} {i:Int} {n c:Nat} (h:iB s i=some (n,c)):∃k:Nat,i=k/\k+c<=s.size/\0 < c/\n<=4000000000/\(l7 n).toList=(s.extract k (k+c)).toList:=by
 obtain⟨k,rfl,hg,hn,hk⟩:=tO h;have hb:=Mth.get_bound _ _ _ _ hg;refine⟨k,rfl,hk,hb.2.1,hn,?_⟩;unfold l7;rw [if_pos Aaa,Int.toNat_natCast,ByteArray.toList_mk,Lib.extract_toList,Mth.get_was_put _ _ _ _ hg];congr 1;omega
theorem Yp {s:ByteArray} {i:Int} {t:ByteArray} {e:Nat} (h:textOf s i.toNat (iB s i)=some (t,e)):∃k:Nat,i=k/\k < e/\e<=s.size/\t.size<=1000/\(og t).toList=(s.extract k e).toList:=by
 cases hG:iB s i with
 |none=>rw [hG] at h;simp[textOf] at h
 |some p=>
  obtain⟨n,c⟩:=p;obtain⟨k,rfl,hk,hc,hn,hput⟩:=FB hG;rw [hG,Int.toNat_natCast] at h;unfold textOf at h;simp only at h;split at h
  .cases h
  .rename_i hbad
   simp only[Option.some.injEq,Prod.mk.injEq] at h;obtain⟨rfl,rfl⟩:=h;have hsz:(s.extract (k+c) (k+c+n)).size=n:=by rw [ByteArray.size_extract];omega
   refine⟨k,rfl,Aaa,Aaa,Aaa,?_⟩;unfold og;rw [if_pos Aaa];unfold qU;rw [ByteArray.toList_mk,hsz]
   have e1:Mth.put n=(s.extract k (k+c)).toList:=by
    rw [<-hput];unfold l7;rw [if_pos Aaa,Int.toNat_natCast,ByteArray.toList_mk]
   rw [e1,Lib.extract_toList,Lib.extract_data,Lib.extract_toList];have h1:k+c - k=c:=Aaa
   have h2:k+c+n - (k+c)=n:=Aaa
   have h3:k+c+n - k=c+n:=Aaa
   rw [h1,h2,h3,<-List.drop_drop,List.take_add]
end Go.Proofs.YtohmklmkjmlpjaaGreatDoor
