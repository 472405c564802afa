/- Parts. -/
import Derived.Test.YtohmklmkjmlpjaaGreatDoorRk1
namespace Go.Proofs.YtohmklmkjmlpjaaGreatDoor
open Go.Proofs.Tryz
set_option maxHeartbeats 1000000
open Go.RowKit
theorem mH (x a b:Int) (w:World) (h1:a<=x) (h2:x<=b):Calls prog 18 #[.int .i64 x,.int .i64 a,.int .i64 b] w λe w'=>e= .returned (.bool true)/\w=w':=by
 exact aaw
theorem Xp (x a b:Int) (w:World) (h1:x < a):Calls prog 18 #[.int .i64 x,.int .i64 a,.int .i64 b] w λe w'=>e= .returned (.bool false)/\w=w':=by
 have h2:¬a<=x:=Aaa
 exact aaw
theorem Tz (x a b:Int) (w:World) (h1:a<=x) (h3:b < x):Calls prog 18 #[.int .i64 x,.int .i64 a,.int .i64 b] w λe w'=>e= .returned (.bool false)/\w=w':=by
 have h2:¬x<=b:=Aaa
 exact aaw
theorem pV (x a b:Int) (w:World) (h:x < a\/b < x):Calls prog 18 #[.int .i64 x,.int .i64 a,.int .i64 b] w λe w'=>e= .returned (.bool false)/\w=w':=by
 by_cases h1:x < a
 .exact Xp x a b w h1
 .exact Tz x a b w Aaa Aaa
set_option maxRecDepth 100000
theorem JY (s:ByteArray) (w:World) (hs:s.size<=maxLen):
 Calls prog 52 #[.string s] w λe w'=>e= .returned (.bool (Mth.keyOk s.data.toList))/\w=w':=by
 unfold maxLen at hs;go_in
 go_wp2
 go_loop [3] (λi=>∃k:Nat,k<=s.size/\i= .int .i64 k/\(s.data.toList.take k).all Mth.keyByte=true) (λi=>s.size - (intOf i).toNat)
 case atStart=>exact⟨0,Nat.zero_le _,rfl,rfl⟩
 case round=>
  obtain⟨k,hk,rfl,hall⟩:=hrel;have HA:=Hq hall;clear hall;by_cases hlt:k < s.size
  .open asA in exact af2
  .open avb in exact agP
theorem JX (n:Int) (w:World) (h1:97<=n) (h2:n<=122):Calls prog 231 #[.int .u8 n] w λe w'=>e= .returned (.bool true)/\w=w':=by
 exact aar
theorem Qs (n:Int) (w:World) (h:n < 97\/122 < n):Calls prog 231 #[.int .u8 n] w λe w'=>e= .returned (.bool false)/\w=w':=by
 by_cases h1:97<=n
 .have h2:¬n<=122:=Aaa
  clear h;exact aar
 .clear h;exact aar
theorem Jm (n:Int) (w:World) (h1:48<=n) (h2:n<=57):Calls prog 232 #[.int .u8 n] w λe w'=>e= .returned (.bool true)/\w=w':=by
 exact aas
theorem OG (n:Int) (w:World) (h:n < 48\/57 < n):Calls prog 232 #[.int .u8 n] w λe w'=>e= .returned (.bool false)/\w=w':=by
 by_cases h1:48<=n
 .have h2:¬n<=57:=Aaa
  clear h;exact aas
 .clear h;exact aas
theorem Jv (s:ByteArray) (w:World):
 Calls prog 204 #[.string s] w λe w'=>e= .returned (.bool (Mth.keyOk s.data.toList))/\w=w':=by
 by_cases hlen:(1:Int)<=(s.size:Int)/\(s.size:Int)<=10
 .obtain⟨hs1,hs2⟩:=hlen;have hne:s.toList.isEmpty=false:=jY s Aaa;have h10:decide (10 < (s.size:Int))=false:=Aag
  go_in
  go_wp2
  go_loop [13] (λi=>∃k:Nat,k<=s.size/\i= .int .i64 k/\(s.data.toList.take k).all Mth.keyByte=true) (λi=>s.size - (intOf i).toNat)
  case atStart=>exact⟨0,Nat.zero_le _,rfl,rfl⟩
  case round=>
   obtain⟨k,hk,rfl,hall⟩:=hrel;have HA:=Hq hall;clear hall;by_cases hlt:k < s.size
   .open asB in exact af2
   .open avc in exact agP
 .have HF:Hid (Mth.keyOk s.data.toList=false):=Mth.keyOk_len _ (by rw [bq];omega);by_cases h0:s.size=0
  .have he:s=ByteArray.empty:=eq_empty s h0;subst he;exact aiq
  .have hne:s.toList.isEmpty=false:=jY s Aaa;have h10:10 < (s.size:Int):=Aaa
   exact aiq
namespace Mth
structure Mg where
 K:Int
 F:Int
 T:Int
 I:Int
 L:Int
 k:ByteArray
 N:Int
abbrev bV (K F T I L:Int) (k:ByteArray) (N:Int):Array Value:=#[.int .i64 K,.int .i64 F,.int .i64 T,.int .i64 I,.int .i64 L,.string k,.int .i64 N]
abbrev nK (m:Mg):Value:= .agg #[.int .i64 m.K,.int .i64 m.F,.int .i64 m.T,.int .i64 m.I,.int .i64 m.L,.string m.k,.int .i64 m.N]
def tY (n:Int):Bool:=decide (0<=n/\n<=29)
def fF (n:Int):Bool:=decide (1<=n/\n<=1000000000)
def mh (f t:Int):Bool:=tY f&&tY t&&decide (f≠t)
def cZ (m:Mg):Bool:=
 mh m.F m.T&&
  (if m.K=0 then keyOk m.k.data.toList&&fF m.N&&decide (m.I=0)&&decide (m.L=0)
   else if m.K=1 then keyOk m.k.data.toList&&fF m.N&&fF m.I&&decide (1<=m.L/\m.L<=m.I)
   else if m.K=2 then fF m.I&&decide (m.k.size=0)&&decide (m.N=0)&&decide (m.L=0)
   else false)
end Mth
open Mth
theorem wp_at {P:Program} {Q:Exit->Act->World->Prop} {c:Code} {a:Act} {W:World} (h:∀W',W'=W->Code.wp P c Q a W'):Code.wp P c Q a W:=h W rfl
theorem ay (w:World) (o:Obj):Below w.heap.size w (w.alloc o):=(Below.refl _ _).alloc (Nat.le_refl _) _
theorem JU {p:Prop} [Decidable p] (h:¬p):Ending.returned (.bool false)= .returned (.bool (decide p)):=by rw [decide_eq_false h]
theorem VF {p q:Prop} [Decidable p] [Decidable q] (h:p↔q):Ending.returned (.bool (decide p))= .returned (.bool (decide q)):=by rw [decide_eq_decide.2 h]
theorem xY (x a b:Int) (r:Bool) (w:World) (h:decide (a<=x/\x<=b)=r):Calls Tryz.prog 18 #[.int .i64 x,.int .i64 a,.int .i64 b] w λe w'=>e= .returned (.bool r)/\w=w':=by
 subst h;by_cases h:a<=x/\x<=b
 .rw [decide_eq_true h];exact mH x a b w h.1 h.2
 .rw [decide_eq_false h];exact pV x a b w Aaa
theorem mZ (n:Int) (r:Bool) (w:World) (h:tY n=r):Calls Tryz.prog 100 #[.int .i64 n] w λe w'=>e= .returned (.bool r)/\w=w':=by
 go_in
 exact ah8
theorem eH (n:Int) (r:Bool) (w:World) (h:fF n=r):Calls Tryz.prog 49 #[.int .i64 n] w λe w'=>e= .returned (.bool r)/\w=w':=by
 go_in
 exact ah8
theorem isNode (n:Int) (r:Bool) (w:World) (h:tY n=r):Calls Tryz.prog 201 #[.int .i64 n] w λe w'=>e= .returned (.bool r)/\w=w':=by
 subst h;by_cases h0:0<=n
 .go_in
  go_wp2
  go_ret;exact⟨VF Aaa,rfl⟩
 .go_in
  go_wp2
  go_ret;exact⟨JU Aaa,rfl⟩
theorem aP (n:Int) (r:Bool) (w:World) (h:fF n=r):Calls Tryz.prog 169 #[.int .i64 n] w λe w'=>e= .returned (.bool r)/\w=w':=by
 subst h;by_cases h0:1<=n
 .go_in
  go_wp2
  go_ret;exact⟨VF Aaa,rfl⟩
 .go_in
  go_wp2
  go_ret;exact⟨JU Aaa,rfl⟩
theorem iw (s:ByteArray) (b:Bool) (w:World) (h:keyOk s.data.toList=b):Calls Tryz.prog 204 #[.string s] w λe w'=>e= .returned (.bool b)/\w=w':=by
 rw [<-h];exact Jv s w
theorem nP (s:ByteArray) (b:Bool) (w:World) (hs:s.size<=maxLen) (h:keyOk s.data.toList=b):Calls Tryz.prog 52 #[.string s] w λe w'=>e= .returned (.bool b)/\w=w':=by
 rw [<-h];exact JY s w hs
def xJ (x a b:Int):Prop:=a<=x/\x<=b
instance (x a b:Int):Decidable (xJ x a b):=by unfold xJ;infer_instance
theorem Tw (x a b:Int) (w:World):Calls Tryz.prog 18 #[.int .i64 x,.int .i64 a,.int .i64 b] w λe w'=>e= .returned (.bool (decide (xJ x a b)))/\w=w':=by
 by_cases h:xJ x a b
 .rw [decide_eq_true h];exact mH x a b w h.1 h.2
 .rw [decide_eq_false h];exact pV x a b w (by unfold xJ at h;omega)
theorem wu (n:Int) (w:World):Calls Tryz.prog 50 #[.int .i64 n] w λe w'=>e= .returned (.bool (decide (xJ n 0 1000000000)))/\w=w':=by
 go_in
 go_wp2_with (go_at_call 18;refine(Tw _ _ _ _).mono ?_;rintro e w1 ⟨rfl,rfl⟩)
 go_ret;exact⟨rfl,rfl⟩
def bv (c:UInt8):Value:= .int .u8 (c.toNat:Int)
theorem Sm {P:Program} {w:World} {base:Nat} {e:TypeId} {v:Value} {l:List UInt8} (src dst:TypeId) (hs:P.underlying src=some (.slice e)) (he:P.underlying e=some (.int .u8)) (hd:P.underlying dst=some .string)
 (h:w.ownsRow base e 1 v l.length (l.map bv)):(convert src dst v).run P w= .ok (.string ⟨l.toArray⟩) w:=by
 rcases h.2 with⟨rfl,hn⟩|⟨g,cap,cur,rfl,_⟩
 .rw [run_convert_bytes_string w src dst e none 0 0 hs he hd];have:l=[]:=List.length_eq_zero_iff.1 hn;subst this;rfl
 .apply run_convert_bytes_back w src dst e _ cap l hs he hd
  intro j hj;exact h.cells rfl j (bv l[j]) (by simp[hj])
theorem P5 {w:World} {base:Nat} {e:TypeId} {v:Value} {l:List UInt8} {z:Int} (b:UInt8) (hz:z=b.toNat) (h:w.ownsRow base e 1 v (l.length+1) (l.map bv++[.int .u8 z])):
 w.ownsRow base e 1 v (l++[b]).length ((l++[b]).map bv):=by
 subst hz;have e1:(l++[b]).map bv=l.map bv++[.int .u8 (b.toNat:Int)]:=by simp[bv]
 rw [e1];simpa using h
theorem below_append {w wr w1:World} {e:TypeId} {v:Value} {n:Nat} {xs:List Value} {o:Obj} (hb:aI w wr) (hown:wr.ownsRow w.heap.size e 1 v n xs) (hg:(wr.alloc o).grownBy w1 v.ownBlock):aI w w1:=
 (hb.alloc (by have:=hb.size;omega) o).grown hg (by have:=hb.size;simp;omega) (λk hk=>(hown.lt k hk).1)
namespace GR
open Go.RowKit
variable {α:Type} {enc:α->List Value} {sz:Nat}
theorem At.news {w:World} {x:Addr} {l:List α} (hs:∀y,(enc y).length=sz) (hz:0 < sz) (h:At enc sz w (some x) l):∀j u,(flat enc l)[j]?=some u->w.cell? (x.add j)=some u:=by
 intro j u hu
 have hj:j < l.length*sz:=by
  have:=(List.getElem?_eq_some_iff.1 hu).1;rwa [flat_length enc sz hs] at this
 have hq:j / sz < l.length:=Nat.div_lt_of_lt_mul (by rw [Nat.mul_comm];exact hj);have hr:j % sz < sz:=Nat.mod_lt _ hz;obtain⟨g,off,e,hg,hc⟩:=h (j / sz) hq;have hf:=flat_at enc sz hs l (j / sz) hq (j % sz) hr;have ej:j / sz*sz+j % sz=j:=Nat.div_add_mod' j sz;rw [ej] at hf;have h2:=hc (j % sz) hr;exact ahG
theorem flat_oneCell (h1:∀y,∀u∈enc y,u.oneCell'=true) (l:List α):∀u∈flat enc l,u.oneCell'=true:=by
 intro u hu;unfold flat at hu;rw [List.mem_flatMap] at hu;obtain⟨p,_,hp⟩:=hu;exact h1 p u hp
theorem own_below {w w':World} {B:Nat} {e:TypeId} {sz:Nat} {v:Value} {n:Nat} {xs:List Value} (h:w.ownsRow B e sz v n xs) (hb:aI w w'):w'.ownsRow B e sz v n xs:=
 h.kept (row:=none) ⟨hb.os,hb.tape,hb.output,hb.size,λk hk _=>hb.block k hk⟩ (by cases v.ownBlock with|none=>exact .inl rfl|some k=>exact .inr (by simp))
theorem own_lower {w:World} {b b':Nat} {e:TypeId} {sz:Nat} {v:Value} {n:Nat} {xs:List Value} (h:w.ownsRow b e sz v n xs) (hb:b'<=b):w.ownsRow b' e sz v n xs:=by
 exact ahY
theorem below_append {w wr w1:World} {B:Nat} {e:TypeId} {sz:Nat} {v:Value} {n:Nat} {xs:List Value} {o:Obj} (hb:Below B w wr) (hB:B<=wr.heap.size) (hown:wr.ownsRow B e sz v n xs) (hg:(wr.alloc o).grownBy w1 v.ownBlock):Below B w w1:=
 (hb.alloc hB o).grown hg Aag (λk hk=>(hown.lt k hk).1)
theorem none_nil {w:World} {l:List α} (h:At enc sz w none l):l=[]:=by
 cases l with
 |nil=>rfl
 |cons y l=>
  obtain⟨g,off,e,_⟩:=h 0 Aac;cases e
end GR
theorem aA {w:World} {g:Nat} {o:Obj} (h:w.heap[g]?=some o):g < w.heap.size:=by
 exact aan
structure aC (F:List Nat) (w w':World):Prop where
 os:w'.os=w.os
 tape:w'.tape=w.tape
 output:w'.output=w.output
 size:w.heap.size<=w'.heap.size
 block:∀k,k < w.heap.size->k∉F->w'.heap[k]?=w.heap[k]?
theorem aC.refl (F:List Nat) (w:World):aC F w w:=⟨rfl,rfl,rfl,Nat.le_refl _,λ_ _ _=>rfl⟩
theorem aC.trans {F:List Nat} {a b c:World} (h:aC F a b) (k:aC F b c):aC F a c:=
 ⟨k.os.trans h.os,k.tape.trans h.tape,k.output.trans h.output,Nat.le_trans h.size k.size,λi hi hg=>(k.block i (Nat.lt_of_lt_of_le hi h.size) hg).trans (h.block i hi hg)⟩
theorem aC.mono {F F':List Nat} {a b:World} (h:aC F a b) (hs:∀x∈F,x∈F'):aC F' a b:=
 ⟨h.os,h.tape,h.output,h.size,λi hi hg=>h.block i hi (λhx=>hg (hs i hx))⟩
theorem aC.of_below {F:List Nat} {w w':World} (h:aI w w'):aC F w w':=⟨h.os,h.tape,h.output,h.size,λk hk _=>h.block k hk⟩
theorem aC.set {g i:Nat} {w:World} (v:Value):aC [g] w (w.setCell ⟨g,i,none⟩ v):=
 ⟨rfl,rfl,rfl,Aaq,λk _ hg=>Below.heap_setCell _ _ _ _ (by simpa using hg)⟩
theorem aC.below {F:List Nat} {B:Nat} {w w':World} (h:aC F w w') (hB:∀x∈F,B<=x) (hs:B<=w.heap.size):Below B w w':=
 ⟨h.os,h.tape,h.output,h.size,λk hk=>h.block k Aaa (λhx=>by have:=hB k hx;omega)⟩
theorem aC.obj {F:List Nat} {w w':World} {g:Nat} {o:Obj} (hk:aC F w w') (h:w.heap[g]?=some o) (hg:g∉F):w'.heap[g]?=some o:=by
 rw [hk.block g (aA h) hg];exact h
def fp {α:Type} (g:Nat) (l:List α):List Nat:=if l.isEmpty then[] else[g]
theorem eu {α:Type} {g:Nat} {l:List α} (h:0 < l.length):g∈fp g l:=by
 unfold fp;cases l with
 |nil=>simp at h
 |cons x l=>simp
theorem dY {α:Type} {g x:Nat} {l:List α} (h:x∈fp g l):x=g/\0 < l.length:=by
 unfold fp at h;cases l with
 |nil=>simp at h
 |cons y l=>simpa using h
theorem jq {α:Type} (g:Nat) (l:List α):(fp g l).Nodup:=by unfold fp;split<;>simp
namespace GR
variable {α:Type}
def W (enc:α->List Value) (sz:Nat) (w:World) (a:Option Addr) (g:Nat) (l:List α):Prop:=∀i (hi:i < l.length),a=some ⟨g,0,none⟩/\g < w.heap.size/\∀j,j < sz->w.cell? ⟨g,i*sz+j,none⟩=(enc l[i])[j]?/\w.frozen? ⟨g,i*sz+j,none⟩=false
variable {enc:α->List Value} {sz:Nat}
theorem W.at {w:World} {a:Option Addr} {g:Nat} {l:List α} (h:W enc sz w a g l):At enc sz w a l:=λi hi=>
 ⟨g,0,(h i hi).1,(h i hi).2.1,λj hj=>by rw [Nat.zero_add];exact((h i hi).2.2 j hj).1⟩
theorem W.of_blk {w:World} {t:TypeId} {g:Nat} {l:List α} (hs:∀x,(enc x).length=sz) (h:Blk enc t w g l):W enc sz w (some ⟨g,0,none⟩) g l:=λi hi=>
 ⟨rfl,Blk.lt h,λj hj=>⟨Blk.cell h hs i hi j hj,Blk.free h _⟩⟩
theorem W.nil {w:World} {a:Option Addr} {g:Nat}:W enc sz w a g []:=λi hi=>by simp at hi
theorem W.keeps {F:List Nat} {w w':World} {a:Option Addr} {g:Nat} {l:List α} (h:W enc sz w a g l) (hk:aC F w w') (hd:∀x∈fp g l,x∉F):W enc sz w' a g l:=λi hi=>by
 obtain⟨e,hg,hc⟩:=h i hi;have hne:g∉F:=hd g (eu Aaa);exact ahs
theorem W.below {w w':World} {a:Option Addr} {g:Nat} {l:List α} (h:W enc sz w a g l) (hb:aI w w'):W enc sz w' a g l:=h.keeps (F:=[]) (aC.of_below hb) (λ_ _=>Aac)
theorem W.of_own {w:World} {B:Nat} {t:TypeId} {v:Value} {l:List α} (hs:∀x,(enc x).length=sz) (h:w.ownsRow B t sz v l.length (flat enc l)):∃a c g,v= .slice a l.length c/\W enc sz w a g l/\(∀x∈fp g l,B<=x/\x < w.heap.size)/\(∀x∈fp g l,v.ownBlock=some x):=by
 obtain⟨a,c,rfl,hat⟩:=own_at hs h;rcases h.2 with⟨hv,hn⟩|⟨g,cap,cur,hv,hg,hblk,_⟩
 .have hl:l=[]:=List.eq_nil_of_length_eq_zero hn;subst hl;exact⟨_,_,0,rfl,W.nil,λx hx=>by simp[fp] at hx,λx hx=>by simp[fp] at hx⟩
 .cases hv
  refine⟨_,_,g,rfl,λi hi=>?_,λx hx=>?_,λx hx=>?_⟩
  .exact aht
  .rw [(dY hx).1];exact⟨hg,aA hblk⟩
  .rw [(dY hx).1];rfl
end GR
theorem infoByte:(Tryz.prog.info? 5).map (λi=>(i.zero,i.size,i.bytes))=some (some (.int .u8 0),1,1):=Aab
theorem sizeByte:(Tryz.prog.info? 5).map (·.size)=some 1:=Aab
theorem cellsByte:Tryz.prog.cellsOf 5=1:=Aab
theorem Gw (w:World):Calls Tryz.prog 122 #[.string ByteArray.empty] w λe w'=>e= .returned (.string ByteArray.empty)/\w=w':=by
 go_in
 go_wp2
 go_ret;exact⟨rfl,rfl⟩
theorem TB (n:Nat) (hn:n<=281474976710656):∃M:Array Value,M.size=n/\∀W:World,(Instr.makeSlice 162 (.int .i64 (n:Int)) (.int .i64 (n:Int))).run Tryz.prog W= .ok (.slice (some ⟨W.heap.size,0,none⟩) n n) (W.alloc (.cells M 5)):=by
 obtain⟨i0,hi,hz0,hz1,hz2⟩:=info_parts infoByte;refine⟨madeCells (Value.int .u8 0).cells (((n:Nat):Int).toNat*i0.size),by rw [size_madeCells,hz1];simp,λW=>?_⟩;simpa using run_make (P:=Tryz.prog) W 162 5 i0 (.int .u8 0) Tryz.underlying162 hi hz0 .i64 .i64 (n:Int) (n:Int) Aaa Aaa Abd Aaa
theorem aaS (w:World) (s:ByteArray) (M:Array Value) (hM:M.size=s.size):∃Y:Array Value,Y.toList=s.data.toList.map bv/\
 (Builtin.copy_ #[162,9] 3 #[.slice (some ⟨w.heap.size,0,none⟩) s.size s.size,.string s]).run Tryz.prog (w.alloc (.cells M 5))= .ok (goInt s.size) ((w.alloc (.cells M 5)).setRow w.heap.size Y):=by
 have h:=Lib.run_copy_row_string (P:=Tryz.prog) (w.alloc (.cells M 5)) 162 9 3 5 w.heap.size 0 s.size s.size s M 5 Tryz.underlying162 sizeByte (heap_alloc_new w _) (Nat.le_refl _) Aaa;refine⟨_,?_,h⟩;rw [List.toList_toArray,List.take_zero,List.nil_append,List.drop_of_length_le (by rw [Array.length_toList];omega),List.append_nil];rfl
theorem ad8 (s:ByteArray) (w:World) (h0:0 < s.size) (hlim:s.size<=281474976710656):
 Calls Tryz.prog 122 #[.string s] w (eG w (.string s)):=by
 obtain⟨M,hMs,hmk⟩:=TB s.size hlim;obtain⟨Y,hY,hcp⟩:=aaS w s M hMs;have hYs:Y.size=s.size:=by rw [<-Array.length_toList,hY];simp
 have hg:((w.alloc (.cells M 5)).setRow w.heap.size Y).heap[w.heap.size]?=some (.cells Y 5 (0,0)):=setRow_heap _ _ M _ 5 (0,0) (heap_alloc_new w _)
 have hus:=Lib.run_unsafeString_row (P:=Tryz.prog) ((w.alloc (.cells M 5)).setRow w.heap.size Y) 202 3 9 5 Tryz.underlying202 cellsByte w.heap.size Y.size (by unfold World.shape?;rw [hg]) s.data.toList
  (λe=>by have:=bq s;rw [e] at this;simp at this;omega) (by rw [bq];omega) (by rw [bq];omega)
  (λj x hx=>Lib.cells_of_row hg Y.size j _ (by rw [List.take_of_length_le (by rw [Array.length_toList];exact Nat.le_refl _),hY];simp[bv,hx]))
 rw [bq,Lib.mk_data] at hus;have hne:((s.size:Int) == 0)=false:=beq_eq_false_iff_ne.2 Aaa;have hlt:(0:Int) < (s.size:Int):=Aaa
 clear hY hMs hg;go_in
 go_wp2
 go_ret;exact⟨rfl,Lib.below_freeze (below_setRow ((Below.refl _ w).alloc (Nat.le_refl _) _) (Nat.le_refl _) Y) (p:=⟨w.heap.size,0,none⟩) (Nat.le_refl _) _⟩
theorem clone (s:ByteArray) (w:World) (hlim:s.size<=281474976710656):
 Calls Tryz.prog 67 #[.string s] w (eG w (.string s)):=by
 by_cases h0:0 < s.size
 .go_in
  go_wp2_with (go_at_call 122;refine(ad8 s _ h0 hlim).mono ?_;rintro e w' ⟨rfl,hbel⟩)
  go_ret;exact⟨rfl,hbel⟩
 .obtain rfl:=eq_empty s Aaa;go_in
  go_wp2_with (go_at_call 122;refine(Gw _).mono ?_;rintro e w' ⟨rfl,rfl⟩)
  go_ret;exact⟨rfl,Below.refl _ _⟩
open Go.Lib (decDigits itoa)
open Go.Lib (decDigits)
theorem sD {g k:Nat}:∀(vs:List Value) (w:World) (o:Nat),k < o\/o+vs.length<=k->(GR.setW w g o vs).cell? ⟨g,k,none⟩=w.cell? ⟨g,k,none⟩:=by
 exact ahg
theorem Dh {g:Nat}:∀(vs:List Value) (w:World) (o:Nat),(∀j,j < vs.length->∃v,w.cell? ⟨g,o+j,none⟩=some v)->∀j,j < vs.length->(GR.setW w g o vs).cell? ⟨g,o+j,none⟩=vs[j]?:=by
 intro vs;induction vs with
 |nil=>intro w o _ j hj;simp at hj
 |cons v vs ih=>
  intro w o h j hj;cases j with
  |zero=>
   obtain⟨v0,hv0⟩:=h 0 Aac;rw [Nat.add_zero] at hv0 ⊢;refine(sD vs (w.setCell ⟨g,o,none⟩ v) (o+1) Aaa).trans ?_;rw [World.cell?_setCell_same _ _ _ hv0];rfl
  |succ j=>
   exact axI
theorem Mj {g k:Nat}:∀(vs:List Value) (w:World) (o:Nat),(GR.setW w g o vs).frozen? ⟨g,k,none⟩=w.frozen? ⟨g,k,none⟩:=by
 exact ahI
theorem TW {g:Nat}:∀(vs:List Value) (w:World) (o:Nat),(GR.setW w g o vs).heap.size=w.heap.size:=by
 exact ahN
theorem aT {g:Nat}:∀(vs:List Value) (w:World) (o:Nat),aC [g] w (GR.setW w g o vs):=by
 intro vs;induction vs with
 |nil=>intro w o;exact aC.refl _ _
 |cons v vs ih=>intro w o;exact(aC.set v).trans (ih (w.setCell ⟨g,o,none⟩ v) (o+1))
theorem GR.W.set {α:Type} {enc:α->List Value} {sz:Nat} {w:World} {a:Option Addr} {g:Nat} {l:List α} (hs:∀x,(enc x).length=sz) (h:GR.W enc sz w a g l) (k:Nat) (x:α) (hk:k < l.length):GR.W enc sz (GR.setW w g (k*sz) (enc x)) a g (l.set k x):=λi hi=>by
 have hi':i < l.length:=Aap
 obtain⟨e,hg,hc⟩:=h i hi';refine⟨e,by rw [TW];exact hg,λj hj=>⟨?_,by rw [Mj];exact(hc j hj).2⟩⟩;by_cases hik:i=k
 .subst hik
  rw [Dh (enc x) w (i*sz) (λj' hj'=>by
   have hj4:j' < sz:=by rw [hs] at hj';exact hj'
   have h1:=(hc j' hj4).1
   rw [List.getElem?_eq_getElem (by rw [hs];exact hj4)] at h1
   exact⟨_,h1⟩) j (by rw [hs];exact hj)]
  simp
 .have hcase:i*sz+j < k*sz\/k*sz+sz<=i*sz+j:=by
   rcases Nat.lt_or_gt_of_ne hik with h'|h'
   .left
    have:=Nat.mul_le_mul_right sz (show i+1<=k by omega);exact aaE
   .right
    have:=Nat.mul_le_mul_right sz (show k+1<=i by omega);exact aaE
  rw [sD (enc x) w (k*sz) (by rw [hs];exact hcase),(hc j hj).1,List.getElem_set_ne Aaa]
theorem akc {α β:Type} {g:Nat} {l:List α} {l':List β} (h:l.length=l'.length):fp g l=fp g l':=by
 unfold fp;cases l with
 |nil=>cases l' with|nil=>rfl|cons y l'=>simp at h
 |cons x l=>cases l' with|nil=>simp at h|cons y l'=>rfl
def GR.C (w:World) (a:Option Addr) (g:Nat) (cs:List Value):Prop:=∀j (hj:j < cs.length),a=some ⟨g,0,none⟩/\g < w.heap.size/\w.cell? ⟨g,j,none⟩=some cs[j]/\w.frozen? ⟨g,j,none⟩=false
namespace Mth
structure gK where
 K:Int
 no:Int
 k:ByteArray
 n:Int
 m:Mg
def lF (m:Mg):Bool:=decide (m.K=0/\m.F=0/\m.T=0/\m.I=0/\m.L=0/\m.k.toList=[]/\m.N=0)
def cu (o:gK):Bool:=
 if o.K=0\/o.K=3\/o.K=4 then keyOk o.k.data.toList&&fF o.n&&decide (o.no=0)&&lF o.m
 else if o.K=1 then keyOk o.k.data.toList&&fF o.n&&fF o.no&&lF o.m
 else if o.K=2 then decide (o.k.toList=[])&&decide (o.n=0)&&fF o.no&&lF o.m
 else if o.K=5 then decide (o.k.toList=[])&&decide (o.n=0)&&decide (o.no=0)&&lF o.m
 else if o.K=6 then decide (o.k.toList=[])&&decide (o.n=0)&&decide (o.no=0)&&cZ o.m
 else false
end Mth
abbrev bZ (K no:Int) (k:ByteArray) (nn mK mF mT mI mL:Int) (mk:ByteArray) (mN:Int):Array Value:=#[.int .i64 K,.int .i64 no,.string k,.int .i64 nn,.int .i64 mK,.int .i64 mF,.int .i64 mT,.int .i64 mI,.int .i64 mL,.string mk,.int .i64 mN]
abbrev jG (o:gK):Value:= .agg #[.int .i64 o.K,.int .i64 o.no,.string o.k,.int .i64 o.n,.int .i64 o.m.K,.int .i64 o.m.F,.int .i64 o.m.T,.int .i64 o.m.I,.int .i64 o.m.L,.string o.m.k,.int .i64 o.m.N]
theorem akJ:(Tryz.prog.info? 5).map (λi=>(i.zero,i.size,i.bytes))=some (some (.int .u8 0),1,1):=Aab
theorem uL (n:Int) (w:World) (h:n < 0\/4000000000 < n):
 Calls Tryz.prog 139 #[.int .i64 n] w λe w'=>e= .returned (.string ByteArray.empty)/\w=w':=by
 go_in
 go_wp2_with (go_at_call 18;refine(pV _ _ _ _ h).mono ?_;rintro e w' ⟨rfl,rfl⟩)
 go_ret;exact⟨rfl,rfl⟩
theorem FV (n:Nat) (w:World) (h:n<=4000000000):
 Calls Tryz.prog 139 #[.int .i64 n] w (eG w (.string ⟨(Mth.put n).toArray⟩)):=by
 obtain⟨i0,hi,hz0,hz1,hz2⟩:=info_parts akJ;go_in
 go_wp2_with (go_at_call 18;refine(mH _ _ _ _ ?_ ?_).mono ?_;omega;omega;rintro e w' ⟨rfl,rfl⟩)
 go_loopw [0,3] (λm v wr=>∃f cur pre,f<=5/\cur<=4000000000/\cur < 128 ^ (f+1)/\pre.length+f=5/\pre++Mth.putF f cur=Mth.put n/\m= .int .i64 (cur:Nat)/\wr.ownsRow w.heap.size 5 1 v pre.length (pre.map bv)/\aI w wr) (λm _ _=>(intOf m).toNat)
 case atStart=>exact⟨5,n,[],Aaa,Aaa,Aaa,rfl,rfl,rfl,World.ownsRow_lit _ #[] 0 (Nat.le_refl _) Aae rfl,(Below.refl _ _).alloc (Nat.le_refl _) _⟩
 case round=>
  obtain⟨f,cur,pre,hf,hc9,hcur,hpf,hput,rfl,hown,hbel⟩:=hrel;have HP:=Hq hput;clear hput;by_cases hbig:cur<=127
  .have HE:=Hq (Mth.put_end n f cur pre hbig HP);go_wp2_with (at_builtin;refine wpList_append_own _ rfl _ _ 162 rfl w.heap.size 5 i0 (.int .u8 0) 1 1 Tryz.underlying162 hi hz0 hz1 hz2 rfl Aae _ _ _ rfl (hown.alloc _) ⟨wr.heap.size,0,none⟩ 1 1 [.int .u8 (cur:Int)] rfl rfl ?c1 ?c2 ?c3 ?c4 ?c5 ?_)
   case c1=>exact cell_one_new _ _ _
   case c2=>intro u hu;simp at hu;subst hu;rfl
   case c3=>unfold maxLen;omega
   case c4=>omega
   case c5=>have:=hbel.size;simp;omega
   intro v' w1 hown' hgrow _;have OQ:=below_append hbel hown hgrow;have hown2:=P5 (UInt8.ofNat cur) (by rw [Mth.toNat_byte _ Aaa]) hown';rw [ah HE] at hown2;have aiO:=Sm 162 9 Tryz.underlying162 Tryz.underlying5 Tryz.underlying9 hown2;clear hown' hgrow hown hown2 hbel HE;go_wp2
   go_ret;exact⟨rfl,OQ⟩
  .obtain⟨f',rfl,hc2,hl2,hp2⟩:=Mth.put_round n f cur pre hcur hbig hpf HP;have qW:=Hq hp2;clear hp2 HP;go_wp2_with (at_builtin;refine wpList_append_own _ rfl _ _ 162 rfl w.heap.size 5 i0 (.int .u8 0) 1 1 Tryz.underlying162 hi hz0 hz1 hz2 rfl Aae _ _ _ rfl (hown.alloc _) ⟨wr.heap.size,0,none⟩ 1 1 [.int .u8 (128+(cur:Int) % 128)] rfl rfl ?d1 ?d2 ?d3 ?d4 ?d5 ?_)
   case d1=>exact cell_one_new _ _ _
   case d2=>intro u hu;simp at hu;subst hu;rfl
   case d3=>unfold maxLen;omega
   case d4=>omega
   case d5=>have:=hbel.size;simp;omega
   intro v' w1 hown' hgrow _;have OQ:=below_append hbel hown hgrow;have hown2:=P5 (UInt8.ofNat (128+cur % 128)) (by rw [Mth.toNat_byte _ Aaa];omega) hown';clear hown' hgrow hown hbel;go_wp2
   go_roundw
   case rel=>exact⟨f',cur / 128,_,Aaa,Aaa,hc2,hl2,qW,Aah,hown2,OQ⟩
   case measure=>simp[intOf];omega
theorem vN (n:Int) (w:World) (h0:0<=n) (h:n<=4000000000):
 Calls Tryz.prog 139 #[.int .i64 n] w (eG w (.string ⟨(Mth.put n.toNat).toArray⟩)):=by
 obtain⟨m,rfl⟩:=Int.eq_ofNat_of_zero_le h0;exact FV m w Aaa
def qM (s:ByteArray):ByteArray:=⟨(Mth.put s.size++s.data.toList).toArray⟩
theorem ad4 (s:ByteArray):(⟨(Mth.put s.size).toArray⟩:ByteArray)++s=qM s:=by
 apply ByteArray.ext
 simp[qM]
theorem BL (s:ByteArray) (w:World) (h:1000 < s.size):
 Calls Tryz.prog 143 #[.string s] w λe w'=>e= .returned (.string ByteArray.empty)/\w=w':=by
 go_in
 go_wp2
 go_ret;exact⟨rfl,rfl⟩
theorem QH (s:ByteArray) (w:World) (h:s.size<=1000):
 Calls Tryz.prog 143 #[.string s] w (eG w (.string (qM s))):=by
 have hl:=Mth.put_length s.size;have hadd:=λw1=>run_string_add_sum (P:=Tryz.prog) w1 ⟨(Mth.put s.size).toArray⟩ s (by rw [size_of_list];omega)
 simp only[ad4] at hadd;go_in
 go_wp2_with (go_at_call 139;refine(FV s.size _ Aaa).mono ?_;rintro e w' ⟨rfl,hbel⟩)
 go_ret;exact⟨rfl,by assumption⟩
def lU (n:Int):ByteArray:=if 0<=n/\n<=4000000000 then⟨(Mth.put n.toNat).toArray⟩ else ByteArray.empty
theorem kW (n:Int) (w:World):Calls Tryz.prog 139 #[.int .i64 n] w (eG w (.string (lU n))):=by
 unfold lU;by_cases h:0<=n/\n<=4000000000
 .rw [if_pos h];exact vN n w h.1 h.2
 .rw [if_neg h];exact(uL n w Aaa).mono λe w' ⟨he,hw⟩=>⟨he,hw▸Below.refl _ _⟩
def nW (s:ByteArray):ByteArray:=if s.size<=1000 then qM s else ByteArray.empty
theorem vO (s:ByteArray) (w:World):Calls Tryz.prog 143 #[.string s] w (eG w (.string (nW s))):=by
 unfold nW;by_cases h:s.size<=1000
 .rw [if_pos h];exact QH s w h
 .rw [if_neg h];exact(BL s w Aaa).mono λe w' ⟨he,hw⟩=>⟨he,hw▸Below.refl _ _⟩
theorem mQ (n:Int):(lU n).size<=6:=by
 unfold lU;split
 .rw [size_of_list];exact Mth.put_length _
 .decide
theorem BH (x:ByteArray):(nW x).size<=1006:=by
 unfold nW;split
 .unfold qM;rw [size_of_list,List.length_append,bq];have:=Mth.put_length x.size;omega
 .decide
end Go.Proofs.YtohmklmkjmlpjaaGreatDoor
