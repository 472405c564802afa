/- Parts. -/
import Derived.Test.YtbolgdleijjgfaaGreatDoorRs7
import Derived.Test.YtbolgdleijjgfaaGreatDoorRs6
namespace Go.Proofs.YtbolgdleijjgfaaGreatDoor
open Go.Proofs.Tryz
set_option maxHeartbeats 4000000
namespace GR
open Go.RowKit
variable {α:Type} {enc:α->List Value} {sz:Nat}
theorem At.news {w:World} {x:Addr} {l:List α} (hs:∀y,(enc y).length=sz) (hz:0 < sz) (h:At enc sz w (some x) l):∀j u,(flat enc l)[j]?=some u->w.cell? (x.add j)=some u:=by
 intro j u hu
 have hj:j < l.length*sz:=by
  have:=(aFF.1 hu).1;rwa [flat_length enc sz hs] at this
 have hq:j / sz < l.length:=Nat.div_lt_of_lt_mul (by rw [aGF];exact hj);have hr:j % sz < sz:=Nat.mod_lt _ hz;obtain⟨g,off,e,hg,hc⟩:=h (j / sz) hq;have hf:=flat_at enc sz hs l (j / sz) hq (j % sz) hr;have ej:j / sz*sz+j % sz=j:=Nat.div_add_mod' j sz;rw [ej] at hf;have h2:=hc (j % sz) hr;exact ah8
theorem flat_oneCell (h1:∀y,∀u∈enc y,u.oneCell'=true) (l:List α):∀u∈flat enc l,u.oneCell'=true:=by
 intro u hu;unfold flat at hu;rw [aGa] at hu;obtain⟨p,_,hp⟩:=hu;exact h1 p u hp
theorem own_below {w w':World} {B:Nat} {e:TypeId} {sz:Nat} {v:Value} {n:Nat} {xs:List Value} (h:w.ownsRow B e sz v n xs) (hb:aH w w'):w'.ownsRow B e sz v n xs:=
 h.kept (row:=none) ⟨hb.os,hb.tape,hb.output,hb.size,λk hk _=>hb.block k hk⟩ (by cases v.ownBlock with|none=>exact .inl rfl|some k=>exact .inr (by simp))
theorem own_lower {w:World} {b b':Nat} {e:TypeId} {sz:Nat} {v:Value} {n:Nat} {xs:List Value} (h:w.ownsRow b e sz v n xs) (hb:b'<=b):w.ownsRow b' e sz v n xs:=by
 exact aiu
theorem below_append {w wr w1:World} {B:Nat} {e:TypeId} {sz:Nat} {v:Value} {n:Nat} {xs:List Value} {o:Obj} (hb:Below B w wr) (hB:B<=wr.heap.size) (hown:wr.ownsRow B e sz v n xs) (hg:(wr.alloc o).grownBy w1 v.ownBlock):Below B w w1:=
 (hb.alloc hB o).grown hg Aah (λk hk=>(hown.lt k hk).1)
theorem none_nil {w:World} {l:List α} (h:At enc sz w none l):l=[]:=by
 cases l with
 |nil=>rfl
 |cons y l=>
  obtain⟨g,off,e,_⟩:=h 0 Aac;cases e
end GR
open Go.RowKit
open Mth
theorem ay {w:World} {g:Nat} {o:Obj} (h:w.heap[g]?=some o):g < w.heap.size:=by
 exact aa7
structure aA (F:List Nat) (w w':World):Prop where
 os:w'.os=w.os
 tape:w'.tape=w.tape
 output:w'.output=w.output
 size:w.heap.size<=w'.heap.size
 block:∀k,k < w.heap.size->k∉F->w'.heap[k]?=w.heap[k]?
theorem aA.refl (F:List Nat) (w:World):aA F w w:=⟨rfl,rfl,rfl,aEM _,λ_ _ _=>rfl⟩
theorem aA.trans {F:List Nat} {a b c:World} (h:aA F a b) (k:aA F b c):aA F a c:=
 ⟨k.os.trans h.os,k.tape.trans h.tape,k.output.trans h.output,aEP h.size k.size,λi hi hg=>(k.block i (aEU hi h.size) hg).trans (h.block i hi hg)⟩
theorem aA.mono {F F':List Nat} {a b:World} (h:aA F a b) (hs:∀x∈F,x∈F'):aA F' a b:=
 ⟨h.os,h.tape,h.output,h.size,λi hi hg=>h.block i hi (λhx=>hg (hs i hx))⟩
theorem aA.of_below {F:List Nat} {w w':World} (h:aH w w'):aA F w w':=⟨h.os,h.tape,h.output,h.size,λk hk _=>h.block k hk⟩
theorem aA.set {g i:Nat} {w:World} (v:Value):aA [g] w (w.setCell ⟨g,i,none⟩ v):=
 ⟨rfl,rfl,rfl,Aaq,λk _ hg=>aE9 _ _ _ _ (by simpa using hg)⟩
theorem aA.below {F:List Nat} {B:Nat} {w w':World} (h:aA F w w') (hB:∀x∈F,B<=x) (hs:B<=w.heap.size):Below B w w':=
 ⟨h.os,h.tape,h.output,h.size,λk hk=>h.block k Aaa (λhx=>by have:=hB k hx;omega)⟩
theorem aA.obj {F:List Nat} {w w':World} {g:Nat} {o:Obj} (hk:aA F w w') (h:w.heap[g]?=some o) (hg:g∉F):w'.heap[g]?=some o:=by
 rw [hk.block g (ay h) hg];exact h
def fp {α:Type} (g:Nat) (l:List α):List Nat:=if l.isEmpty then[] else[g]
theorem dB {α:Type} {g:Nat} {l:List α} (h:0 < l.length):g∈fp g l:=by
 unfold fp;cases l with
 |nil=>simp at h
 |cons x l=>simp
theorem cu {α:Type} {g x:Nat} {l:List α} (h:x∈fp g l):x=g/\0 < l.length:=by
 unfold fp at h;cases l with
 |nil=>simp at h
 |cons y l=>simpa using h
theorem jD {α:Type} (g:Nat) (l:List α):(fp g l).Nodup:=by unfold fp;split<;>simp
namespace GR
variable {α:Type}
def W (enc:α->List Value) (sz:Nat) (w:World) (a:Option Addr) (g:Nat) (l:List α):Prop:=∀i (hi:i < l.length),a=some ⟨g,0,none⟩/\g < w.heap.size/\∀j,j < sz->w.cell? ⟨g,i*sz+j,none⟩=(enc l[i])[j]?/\w.frozen? ⟨g,i*sz+j,none⟩=false
variable {enc:α->List Value} {sz:Nat}
theorem W.at {w:World} {a:Option Addr} {g:Nat} {l:List α} (h:W enc sz w a g l):At enc sz w a l:=λi hi=>
 ⟨g,0,(h i hi).1,(h i hi).2.1,λj hj=>by rw [aFz];exact((h i hi).2.2 j hj).1⟩
theorem W.of_blk {w:World} {t:TypeId} {g:Nat} {l:List α} (hs:∀x,(enc x).length=sz) (h:Blk enc t w g l):W enc sz w (some ⟨g,0,none⟩) g l:=λi hi=>
 ⟨rfl,Blk.lt h,λj hj=>⟨Blk.cell h hs i hi j hj,Blk.free h _⟩⟩
theorem W.nil {w:World} {a:Option Addr} {g:Nat}:W enc sz w a g []:=λi hi=>by simp at hi
theorem W.keeps {F:List Nat} {w w':World} {a:Option Addr} {g:Nat} {l:List α} (h:W enc sz w a g l) (hk:aA F w w') (hd:∀x∈fp g l,x∉F):W enc sz w' a g l:=λi hi=>by
 obtain⟨e,hg,hc⟩:=h i hi;have hne:g∉F:=hd g (dB Aaa);exact ahU
theorem W.below {w w':World} {a:Option Addr} {g:Nat} {l:List α} (h:W enc sz w a g l) (hb:aH w w'):W enc sz w' a g l:=h.keeps (F:=[]) (aA.of_below hb) (λ_ _=>Aac)
theorem W.of_own {w:World} {B:Nat} {t:TypeId} {v:Value} {l:List α} (hs:∀x,(enc x).length=sz) (h:w.ownsRow B t sz v l.length (flat enc l)):∃a c g,v= .slice a l.length c/\W enc sz w a g l/\(∀x∈fp g l,B<=x/\x < w.heap.size)/\(∀x∈fp g l,v.ownBlock=some x):=by
 obtain⟨a,c,rfl,hat⟩:=own_at hs h;rcases h.2 with⟨hv,hn⟩|⟨g,cap,cur,hv,hg,hblk,_⟩
 .have hl:l=[]:=aFg hn;subst hl;exact⟨_,_,0,rfl,W.nil,λx hx=>Acg,λx hx=>Acg⟩
 .cases hv
  refine⟨_,_,g,rfl,λi hi=>?_,λx hx=>?_,λx hx=>?_⟩
  .exact ahV
  .rw [(cu hx).1];exact⟨hg,ay hblk⟩
  .rw [(cu hx).1];rfl
end GR
theorem tX {g k:Nat}:∀(vs:List Value) (w:World) (o:Nat),k < o\/o+vs.length<=k->(GR.setW w g o vs).cell? ⟨g,k,none⟩=w.cell? ⟨g,k,none⟩:=by
 exact ahJ
theorem Ed {g:Nat}:∀(vs:List Value) (w:World) (o:Nat),(∀j,j < vs.length->∃v,w.cell? ⟨g,o+j,none⟩=some v)->∀j,j < vs.length->(GR.setW w g o vs).cell? ⟨g,o+j,none⟩=vs[j]?:=by
 intro vs;induction vs with
 |nil=>intro w o _ j hj;simp at hj
 |cons v vs ih=>
  intro w o h j hj;cases j with
  |zero=>
   obtain⟨v0,hv0⟩:=h 0 Aac;rw [aGw] at hv0 ⊢;refine(tX vs (w.setCell ⟨g,o,none⟩ v) (o+1) Aaa).trans ?_;rw [aGv _ _ _ hv0];rfl
  |succ j=>
   exact ax2
theorem Nj {g k:Nat}:∀(vs:List Value) (w:World) (o:Nat),(GR.setW w g o vs).frozen? ⟨g,k,none⟩=w.frozen? ⟨g,k,none⟩:=by
 exact aib
theorem Gt {g:Nat}:∀(vs:List Value) (w:World) (o:Nat),(GR.setW w g o vs).heap.size=w.heap.size:=by
 exact aif
theorem gB {g:Nat}:∀(vs:List Value) (w:World) (o:Nat),aA [g] w (GR.setW w g o vs):=by
 intro vs;induction vs with
 |nil=>intro w o;exact aA.refl _ _
 |cons v vs ih=>intro w o;exact(aA.set v).trans (ih (w.setCell ⟨g,o,none⟩ v) (o+1))
theorem GR.W.set {α:Type} {enc:α->List Value} {sz:Nat} {w:World} {a:Option Addr} {g:Nat} {l:List α} (hs:∀x,(enc x).length=sz) (h:GR.W enc sz w a g l) (k:Nat) (x:α) (hk:k < l.length):GR.W enc sz (GR.setW w g (k*sz) (enc x)) a g (l.set k x):=λi hi=>by
 have hi':i < l.length:=Aas
 obtain⟨e,hg,hc⟩:=h i hi';refine⟨e,by rw [Gt];exact hg,λj hj=>⟨?_,by rw [Nj];exact(hc j hj).2⟩⟩;by_cases hik:i=k
 .subst hik
  rw [Ed (enc x) w (i*sz) (λj' hj'=>by
   have hj4:j' < sz:=by rw [hs] at hj';exact hj'
   have h1:=(hc j' hj4).1
   rw [aEQ (by rw [hs];exact hj4)] at h1
   exact⟨_,h1⟩) j (by rw [hs];exact hj)]
  simp
 .have hcase:i*sz+j < k*sz\/k*sz+sz<=i*sz+j:=by
   rcases Nat.lt_or_gt_of_ne hik with h'|h'
   .left
    have:=aGe sz (show i+1<=k by omega);grind
   .right
    have:=aGe sz (show k+1<=i by omega);grind
  rw [tX (enc x) w (k*sz) (by rw [hs];exact hcase),(hc j hj).1,aFj Aaa]
def jH {α:Type} (mk:Nat->α) (c s:Nat) (l:List α) (k:Nat):List α:=(List.range k).map (λi=>mk (s+c*i))++l.drop k
theorem fA {α:Type} (mk:Nat->α) (c s:Nat) (l:List α) (k:Nat) (hk:k<=l.length):(jH mk c s l k).length=l.length:=by simp[jH];omega
theorem acV {α:Type} (mk:Nat->α) (c s:Nat) (l:List α):jH mk c s l 0=l:=by simp[jH]
theorem xI {α:Type} (mk:Nat->α) (c s:Nat) (l:List α) (k:Nat) (hk:k < l.length):(jH mk c s l k).set k (mk (s+c*k))=jH mk c s l (k+1):=by
 have e:l.drop k=l[k]::l.drop (k+1):=aFy hk;unfold jH;rw [e,aGb _ _ Aac];simp only[aFL,List.length_range,Nat.sub_self,List.set_cons_zero,aGQ,List.map_append,List.map_cons,List.map_nil,aFr,List.cons_append,aF0]
theorem Cq {α:Type} (mk:Nat->α) (c s:Nat) (l:List α) (n k:Nat) (hk:k < n) (hn:n<=l.length):(jH mk c s l n)[k]'(by rw [fA mk c s l n hn];omega)=mk (s+c*k):=by
 unfold jH;rw [List.getElem_append_left Acf];simp
theorem dx {α:Type} {g:Nat} {l:List α} {w w':World} (h:aA [g] w w') (hl:0 < l.length):aA (fp g l) w w':=h.mono (λx hx=>by
 have:x=g:=Aag
 rw [this]
 exact dB hl)
theorem LQ {α β:Type} {g:Nat} {l:List α} {l':List β} (h:l.length=l'.length):fp g l=fp g l':=by
 unfold fp;cases l with
 |nil=>cases l' with|nil=>rfl|cons y l'=>simp at h
 |cons x l=>cases l' with|nil=>simp at h|cons y l'=>rfl
def GR.C (w:World) (a:Option Addr) (g:Nat) (cs:List Value):Prop:=∀j (hj:j < cs.length),a=some ⟨g,0,none⟩/\g < w.heap.size/\w.cell? ⟨g,j,none⟩=some cs[j]/\w.frozen? ⟨g,j,none⟩=false
theorem GR.C.set {w:World} {a:Option Addr} {g:Nat} {cs:List Value} (h:GR.C w a g cs) (k:Nat) (v:Value):GR.C (w.setCell ⟨g,k,none⟩ v) a g (cs.set k v):=λj hj=>by
 have hj':j < cs.length:=Abe
 obtain⟨e,hg,hc,hf⟩:=h j hj';refine⟨e,by simpa [World.setCell] using hg,?_,by rw [World.frozen?_setCell];exact hf⟩;by_cases hjk:j=k
 .subst hjk;rw [aGv _ _ _ hc];simp
 .rw [aFV _ _ _ _ (by simp<;>omega),hc,aFj Aaa]
theorem GR.C.below {w w':World} {a:Option Addr} {g:Nat} {cs:List Value} (h:GR.C w a g cs) (hb:aH w w'):GR.C w' a g cs:=λj hj=>by
 obtain⟨e,hg,hc,hf⟩:=h j hj;exact⟨e,aEU hg hb.size,(hb.cell (p:=⟨g,j,none⟩) hg).trans hc,(hb.frozen (p:=⟨g,j,none⟩) hg).trans hf⟩
theorem GR.W.toC {α:Type} {enc:α->List Value} {sz:Nat} {w:World} {a:Option Addr} {g:Nat} {l:List α} (hs:∀x,(enc x).length=sz) (hz:0 < sz) (h:GR.W enc sz w a g l):GR.C w a g (GR.flat enc l):=λj hj=>by
 have hj2:j < l.length*sz:=by rwa [GR.flat_length enc sz hs] at hj
 have hq:j / sz < l.length:=Nat.div_lt_of_lt_mul (by rw [aGF];exact hj2);have hr:j % sz < sz:=Nat.mod_lt _ hz;have ej:j / sz*sz+j % sz=j:=Nat.div_add_mod' j sz;obtain⟨e,hg,hc⟩:=h (j / sz) hq;obtain⟨h1,h2⟩:=hc (j % sz) hr;have hf:=GR.flat_at enc sz hs l (j / sz) hq (j % sz) hr;rw [ej] at h1 h2 hf;exact⟨e,hg,by rw [h1,<-hf,aEQ hj],h2⟩
theorem GR.C.toW {α:Type} {enc:α->List Value} {sz:Nat} {w:World} {a:Option Addr} {g:Nat} {l:List α} (hs:∀x,(enc x).length=sz) (hz:0 < sz) (h:GR.C w a g (GR.flat enc l)):GR.W enc sz w a g l:=λi hi=>by
 have hlt:∀j,j < sz->i*sz+j < (GR.flat enc l).length:=λj hj=>by
  rw [GR.flat_length enc sz hs]
  have:=aGe sz (show i+1<=l.length by omega)
  rw [aGx,Nat.one_mul] at this
  omega
 refine⟨(h (i*sz+0) (hlt 0 hz)).1,(h (i*sz+0) (hlt 0 hz)).2.1,λj hj=>?_⟩;obtain⟨_,_,hc,hf⟩:=h (i*sz+j) (hlt j hj);refine⟨?_,hf⟩;rw [hc,<-GR.flat_at enc sz hs l i hi j hj,aEQ]
theorem kH (k:Nat) (z:Int) (w:World) (hz:z=k) (h0:0 < k) (hk:(k:Int)<=9223372036854775807):
 Calls Tryz.prog 35 #[.int .i64 z] w (dM w (.string (mark k))):=by
 subst hz;exact acU k w h0 hk
def wH (o:Option (Nat×Nat)) (i:Int):Value:=
 match o with
 |none=> .tuple #[.int .i64 0,.int .i64 (-1)]
 |some (n,c)=> .tuple #[.int .i64 n,.int .i64 (i+c)]
theorem get_some {G:Option (Nat×Nat)} {i a b:Int} {n c:Nat} (hG:G=some (n,c)) (ha:a=n) (hb:b=i+c):Ending.returned (.tuple #[.int .i64 a,.int .i64 b])= .returned (wH G i):=by
 subst hG;subst ha;subst hb;rfl
theorem get_none {G:Option (Nat×Nat)} {i:Int} (hG:G=none):Ending.returned (.tuple #[.int .i64 0,.int .i64 (-1)])= .returned (wH G i):=by
 subst hG;rfl
theorem Ah (s:ByteArray) (i j k:Nat) (hk:k=i+j) (hlt:k < s.size):(s.extract i (k+1)).toList=(s.data.toList.drop i).take j++[s[k]]:=by
 subst hk;rw [aGj];have e:i+j+1 - i=j+1:=Aaa
 rw [e,aEV (by simp;show j < s.size - i;omega)];simp;rfl
theorem adM {j v:Nat} (h:qU j v):v=128 ^ j:=by
 unfold qU at h;rcases h with⟨rfl,rfl⟩|⟨rfl,rfl⟩|⟨rfl,rfl⟩|⟨rfl,rfl⟩|⟨rfl,rfl⟩|⟨rfl,rfl⟩<;>rfl
def zk (s:ByteArray) (i j m:Nat):Prop:=((s.data.toList.drop i).take j).length=j/\(∀c∈(s.data.toList.drop i).take j,128<=c.toNat)/\m=Mth.val ((s.data.toList.drop i).take j)
theorem adk (s:ByteArray) (i:Nat):zk s i 0 0:=⟨Aac,Aac,by simp[Mth.val]⟩
theorem xP (s:ByteArray) (i j k:Nat) (hk:k=i+j) (hlt:k < s.size):(s.data.toList.drop i).take (j+1)=(s.data.toList.drop i).take j++[s[k]]:=by
 have h:=Ah s i j k hk hlt;rw [aGj] at h;have e:k+1 - i=j+1:=Aaa
 rw [e] at h;exact h
theorem RH (s:ByteArray) (i j k m v:Nat) (hk:k=i+j) (hlt:k < s.size) (hu:qU j v) (h:zk s i j m):Mth.val ((s.data.toList.drop i).take (j+1))=m+s[k].toNat % 128*v:=by
 rw [xP s i j k hk hlt,Mth.val_snoc,h.1,<-h.2.2,adM hu]
theorem Zg (s:ByteArray) (i j k m v:Nat) (hk:k=i+j) (hlt:k < s.size) (hu:qU j v) (hb:128<=s[k].toNat) (h:zk s i j m):zk s i (j+1) (m+s[k].toNat % 128*v):=by
 refine⟨?_,?_,(RH s i j k m v hk hlt hu h).symm⟩
 .rw [xP s i j k hk hlt,aER,h.1];rfl
 .intro c hc;rw [xP s i j k hk hlt,aE6] at hc;rcases hc with hc|hc
  .exact h.2.1 c hc
  .simp at hc;subst hc;exact hb
theorem ae5 (s:ByteArray) (i j k m v:Nat) (hk:k=i+j) (hlt:k < s.size) (hu:qU j v) (hj:j < 5) (hb:¬128<=s[k].toNat) (h:zk s i j m) (hz:s[k].toNat≠0\/j=0):
 Mth.put (m+s[k].toNat*v)=(s.extract i (k+1)).toList:=by
 have e:m+s[k].toNat*v=Mth.val ((s.data.toList.drop i).take j++[s[k]]):=by
  exact aiV
 rw [e,Ah s i j k hk hlt]
 exact Mth.putF_val _ _ Aaa 5 (by rw [h.1];omega) h.2.1 (by
  rcases hz with hz|hz
  .exact .inl hz
  .subst hz;exact .inr Aac)
theorem akw (s:ByteArray) (i j k m v:Nat) (hk:k=i+j) (hlt:k < s.size) (hu:qU j v) (hj:j < 5) (h:zk s i j m) (hz:s[k].toNat=0) (hj0:0 < j):
 Mth.put (m+s[k].toNat*v)≠(s.extract i (k+1)).toList:=by
 have e:m+s[k].toNat*v=Mth.val ((s.data.toList.drop i).take j++[s[k]]):=by
  exact aiV
 rw [e,Ah s i j k hk hlt];exact Mth.putF_nought _ _ hz (by intro hn;have:=h.1;rw [hn] at this;simp at this;omega) 5 (by rw [h.1];omega)
set_option maxRecDepth 100000
theorem GH (s:ByteArray) (i:Int) (w:World) (h:i < 0):Calls Tryz.prog 123 #[.string s,.int .i64 i] w λe w'=>e= .returned (wH none i)/\w=w':=by
 have h0:decide (0<=i)=false:=Aah
 go_in
 go_wp2
 refine wp_loop_rounds 1 ?_;rw [rounds_succ];go_wp2
 go_ret2
 exact⟨rfl,rfl⟩
theorem XZ {a b:List UInt8} (h:a=b):(a == b)=true:=by simp[h]
theorem Kh {a b:List UInt8} (h:a≠b):(a == b)=false:=by simp[h]
theorem UN (s:ByteArray) (i:Nat) (w:World) (hs:s.size<=maxLen):Calls Tryz.prog 123 #[.string s,.int .i64 i] w (dM w (wH (Mth.get s.data.toList i) i)):=by
 unfold maxLen at hs;go_in
 go_wp2
 go_loop [6,7,8] (λn u a=>∃j m v k:Nat,qU j v/\m < v/\n= .int .i64 m/\u= .int .i64 v/\a= .int .i64 k/\k=i+j/\zk s i j m/\Mth.getF (5 - j) (s.data.toList.drop k) m v j=Mth.get s.data.toList i) (λ_ _ a=>s.size - (intOf a).toNat)
 case atStart=>exact⟨0,0,1,i,.inl ⟨rfl,rfl⟩,Aaa,rfl,rfl,rfl,rfl,adk s i,rfl⟩
 case round=>
  obtain⟨j,m,v,k,hu,hm,rfl,rfl,rfl,hk,hread,hget⟩:=hrel;have HG:=Hq hget;have HK:=Hq hk;have El:=Hq hread;have aDY:(k:Int) - (i:Int)<=j:=Aaa
  have aDZ:(j:Int)<=(k:Int) - (i:Int):=Aaa
  clear hget hk hread;obtain⟨hv1,hv2,hu2,hv5⟩:=Xo hu;have HU0:=Hq hu;by_cases hlt:k < s.size
  .by_cases hj:j < 5
   .open arA in exact axf
   .obtain⟨rfl,ayz⟩:=hv5 hj;have HR:=Hq (Mth.get_full _ _ _ _ HG);exact aiX
  .have HR:=Hq (Mth.get_end s k _ m _ _ hlt HG);exact aiX
def ig (s:ByteArray) (i:Int):Option (Nat×Nat):=if i < 0 then none else Mth.get s.data.toList i.toNat
theorem Cg (s:ByteArray) (i:Int) (h:i < 0):ig s i=none:=by simp[ig,h]
theorem xB (s:ByteArray) (n:Nat):ig s n=Mth.get s.data.toList n:=by
 unfold ig;rw [aEX Aaa];rfl
theorem ac6 (s:ByteArray) (i:Int) (w:World) (hs:s.size<=maxLen):Calls Tryz.prog 266 #[.string s,.int .i64 i] w λe w'=>e= .returned (rX (ig s i) i)/\w=w':=by
 by_cases h:i < 0
 .rw [Cg s i h];exact YX s i w h
 .obtain⟨n,rfl⟩:=Int.eq_ofNat_of_zero_le (show 0<=i by omega);rw [xB];exact azh s n w hs
theorem Dq (s:ByteArray) (i:Int) (w:World) (hs:s.size<=maxLen):Calls Tryz.prog 123 #[.string s,.int .i64 i] w (dM w (wH (ig s i) i)):=by
 by_cases h:i < 0
 .rw [Cg s i h];exact(GH s i w h).mono λe w' ⟨he,hw⟩=>⟨he,hw▸aEY _ _⟩
 .obtain⟨n,rfl⟩:=Int.eq_ofNat_of_zero_le (show 0<=i by omega);rw [xB];exact UN s n w hs
theorem PW (s:ByteArray) (i:Int) (w:World) (hs:s.size<=maxLen) (hH:Handle w):Calls Tryz.prog 269 #[.string s,.int .i64 i] w (dM w (wH (ig s i) i)):=by
 have HN:=Hq (λw1=>ac6 s i w1 hs);have HH:=Hq hH;clear hH;cases hG:ig s i with
 |none=>
  rw [hG] at HN;go_in
  go_wp2_with (first|(go_at_call 266;refine(HN _).mono ?_;rintro e w' ⟨rfl,rfl⟩;simp only[rX])|(go_at_call 230;refine(Ql _ _ HH).mono ?_;rintro e w' ⟨rfl,hbel⟩))
  go_ret2
  exact⟨rfl,hbel⟩
 |some p=>
  obtain⟨n,c⟩:=p;rw [hG] at HN;go_in
  go_wp2_with (first|(go_at_call 266;refine(HN _).mono ?_;rintro e w' ⟨rfl,rfl⟩;simp only[rX])|(go_at_call 230;refine(Qk _).mono ?_;rintro e w' ⟨rfl,hbel⟩))
  go_ret2
  exact⟨rfl,hbel⟩
def Ev (o:Option (ByteArray×Nat)):Value:=
 match o with
 |none=> .tuple #[.string ByteArray.empty,.int .i64 (-1)]
 |some (t,b)=> .tuple #[.string t,.int .i64 b]
def textOf (s:ByteArray) (i:Nat) (o:Option (Nat×Nat)):Option (ByteArray×Nat):=
 match o with
 |none=>none
 |some (n,c)=>if 1000 < n\/s.size - (i+c) < n then none else some (s.extract (i+c) (i+c+n),i+c+n)
theorem uM {s:ByteArray} {i:Int} {n c:Nat} (h:ig s i=some (n,c)):∃k:Nat,i=k/\Mth.get s.data.toList k=some (n,c)/\n<=4000000000/\k+c<=s.size:=by
 by_cases h0:i < 0
 .rw [Cg s i h0] at h;cases h
 .obtain⟨k,rfl⟩:=Int.eq_ofNat_of_zero_le (show 0<=i by omega);have h':ig s (k:Int)=some (n,c):=h;rw [xB] at h';have hb:=Mth.get_bound _ _ _ _ h';rw [aZ] at hb;exact⟨k,rfl,h',hb.1,hb.2.2.2⟩
theorem Rj (s:ByteArray) (i:Int) (w:World) (hs:s.size<=maxLen):Calls Tryz.prog 94 #[.string s,.int .i64 i] w (dM w (Ev (textOf s i.toNat (ig s i)))):=by
 have HS:=Hq (λw1=>Dq s i w1 hs);unfold maxLen at hs;cases hG:ig s i with
 |none=>
  rw [hG] at HS;open au9 in exact aaV
 |some p=>
  obtain⟨n,c⟩:=p;obtain⟨k,rfl,_,hn,hk⟩:=uM hG;rw [hG] at HS;by_cases hbad:1000 < n\/s.size - (k+c) < n
  .have HR:Hid (textOf s k (some (n,c))=none):=by unfold textOf;exact aE7 hbad
   rw [aFS];by_cases h1:1000 < n
   .exact ahQ
   .have h2:(s.size:Int) - ((k:Int)+(c:Int)) < (n:Int):=Aaa
    exact ahQ
  .open atA in exact agU
def NI (o:Option (Nat×Nat)) (i:Int):Value:=
 match o with
 |none=> .iface 287 (.agg #[.iface 287 (.agg #[.iface 289 (.agg #[.int .i64 i])])])
 |some _=> .iface 287 (.agg #[.iface 289 (.agg #[.int .i64 i])])
def uh (t:Option (ByteArray×Nat)) (o:Option (Nat×Nat)) (i:Int):Value:=
 match t with
 |none=> .tuple #[.string ByteArray.empty,.int .i64 0,NI o i]
 |some (x,b)=> .tuple #[.string x,.int .i64 b,.nilIface]
theorem alx (s:ByteArray) (i:Int) (w:World) (hs:s.size<=maxLen):Calls Tryz.prog 229 #[.string s,.int .i64 i] w (dM w (uh (textOf s i.toNat (ig s i)) (ig s i) i)):=by
 have HS:=Hq (λw1=>ac6 s i w1 hs);unfold maxLen at hs;cases hG:ig s i with
 |none=>
  rw [hG] at HS;go_in
  go_wp2_with (go_at_call 266;refine(HS _).mono ?_;rintro e w1 ⟨rfl,rfl⟩;simp only[rX])
  go_ret3
  exact⟨rfl,aEY _ _⟩
 |some p=>
  obtain⟨n,c⟩:=p;obtain⟨k,rfl,_,hn,hk⟩:=uM hG;rw [hG] at HS;by_cases hbad:1000 < n\/s.size - (k+c) < n
  .have HR:Hid (textOf s k (some (n,c))=none):=by unfold textOf;exact aE7 hbad
   rw [aFS];by_cases h1:1000 < n
   .exact ax5
   .have h2:(s.size:Int) - ((k:Int)+(c:Int)) < (n:Int):=Aaa
    exact ax5
  .open atC in exact agU
theorem PY (s:ByteArray) (i:Int) (w:World) (hs:s.size<=maxLen) (hH:Handle w):Calls Tryz.prog 210 #[.string s,.int .i64 i] w (dM w (Ev (textOf s i.toNat (ig s i)))):=by
 have HN:=Hq (λw1=>alx s i w1 hs);have HH:=Hq hH;clear hH;cases hT:textOf s i.toNat (ig s i) with
 |none=>
  rw [hT] at HN;cases hG:ig s i with
  |none=>
   rw [hG] at HN;go_in
   go_wp2_with (first|(go_at_call 229;refine(HN _).mono ?_;rintro e w1 ⟨rfl,hb1⟩;simp only[uh,NI])|(go_at_call 230;refine(acC _ _ (HH.below hb1)).mono ?_;rintro e w2 ⟨rfl,hb2⟩))
   exact abj
  |some p=>
   rw [hG] at HN;go_in
   go_wp2_with (first|(go_at_call 229;refine(HN _).mono ?_;rintro e w1 ⟨rfl,hb1⟩;simp only[uh,NI])|(go_at_call 230;refine(Ql _ _ (HH.below hb1)).mono ?_;rintro e w2 ⟨rfl,hb2⟩))
   exact abj
 |some p=>
  obtain⟨x,b⟩:=p;rw [hT] at HN;go_in
  go_wp2_with (first|(go_at_call 229;refine(HN _).mono ?_;rintro e w1 ⟨rfl,hb1⟩;simp only[uh])|(go_at_call 230;refine(Qk _).mono ?_;rintro e w2 ⟨rfl,hb2⟩))
  exact abj
def alj (o:Option (Nat×Nat)):Int:=match o with|none=>0|some (n,_)=>n
def afH (o:Option (Nat×Nat)) (i:Int):Int:=match o with|none=> -1|some (_,c)=>i+c
theorem Fv (o:Option (Nat×Nat)) (i:Int):wH o i= .tuple #[.int .i64 (alj o),.int .i64 (afH o i)]:=by cases o<;>rfl
def ZN (o:Option (ByteArray×Nat)):ByteArray:=match o with|none=>ByteArray.empty|some (t,_)=>t
def Rz (o:Option (ByteArray×Nat)):Int:=match o with|none=> -1|some (_,b)=>b
theorem Dt (o:Option (ByteArray×Nat)):Ev o= .tuple #[.string (ZN o),.int .i64 (Rz o)]:=by cases o<;>rfl
theorem Gi {s:ByteArray} {i:Int} {n c:Nat} (h:ig s i=some (n,c)):∃k:Nat,i=k/\k+c<=s.size/\0 < c/\n<=4000000000/\(mq n).toList=(s.extract k (k+c)).toList:=by
 obtain⟨k,rfl,hg,hn,hk⟩:=uM h;have hb:=Mth.get_bound _ _ _ _ hg;refine⟨k,rfl,hk,hb.2.1,hn,?_⟩;unfold mq;rw [aE7 Aaa,aFS,ByteArray.toList_mk,aGj,Mth.get_was_put _ _ _ _ hg];congr 1;omega
theorem Zh {s:ByteArray} {i:Int} {t:ByteArray} {e:Nat} (h:textOf s i.toNat (ig s i)=some (t,e)):∃k:Nat,i=k/\k < e/\e<=s.size/\t.size<=1000/\(oN t).toList=(s.extract k e).toList:=by
 cases hG:ig s i with
 |none=>rw [hG] at h;simp[textOf] at h
 |some p=>
  obtain⟨n,c⟩:=p;obtain⟨k,rfl,hk,hc,hn,hput⟩:=Gi hG;rw [hG,aFS] at h;unfold textOf at h;simp only at h;split at h
  .cases h
  .rename_i hbad
   simp only[aGc,Prod.mk.injEq] at h;obtain⟨rfl,rfl⟩:=h;have hsz:(s.extract (k+c) (k+c+n)).size=n:=by rw [aGq];omega
   refine⟨k,rfl,Aaa,Aaa,Aaa,?_⟩;unfold oN;rw [aE7 Aaa];unfold rO;rw [ByteArray.toList_mk,hsz]
   have e1:Mth.put n=(s.extract k (k+c)).toList:=by
    rw [<-hput];unfold mq;rw [aE7 Aaa,aFS,ByteArray.toList_mk]
   rw [e1,aGj,aGf,aGj];have h1:k+c - k=c:=Aaa
   have h2:k+c+n - (k+c)=n:=Aaa
   have h3:k+c+n - k=c+n:=Aaa
   rw [h1,h2,h3,<-List.drop_drop,List.take_add]
structure HW (w:World) (P:World->Prop) (X:World):Prop where
 b:aH w X
 p:∀Y,aH X Y->P Y
theorem HW.step {w X Y:World} {P:World->Prop} (h:HW w P X) (hb:aH X Y):HW w P Y:=⟨h.b.trans (hb.mono h.b.size),λZ hz=>h.p Z (hb.trans (hz.mono hb.size))⟩
theorem HW.add {w X:World} {P:World->Prop} (h:HW w P X) (N:World->Prop) (hN:∀Y,aH X Y->N Y):HW w (λY=>P Y/\N Y) X:=⟨h.b,λY hy=>⟨h.p Y hy,hN Y hy⟩⟩
theorem HW.now {w X:World} {P:World->Prop} (h:HW w P X):P X:=h.p X (aEY _ _)
end Go.Proofs.YtbolgdleijjgfaaGreatDoor
