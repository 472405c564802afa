/- Parts. -/
import Derived.Test.YtbolgdleijjgfaaGreatDoorRs1
namespace Go.Proofs.YtbolgdleijjgfaaGreatDoor
open Go.Proofs.Tryz
open Go.RowKit
open Mth
variable (x a b:Int) (w:World) {g:Nat}
theorem nG (h1:a<=x) (h2:x<=b):Calls prog 47 #[.int .i64 x,.int .i64 a,.int .i64 b] w λe w'=>e= .returned (.bool true)/\w=w':=by
 exact abf
theorem YF (h1:x < a):Calls prog 47 #[.int .i64 x,.int .i64 a,.int .i64 b] w λe w'=>e= .returned (.bool false)/\w=w':=by
 have h2:¬a<=x:=Aaa
 exact abf
theorem Uk (h1:a<=x) (h3:b < x):Calls prog 47 #[.int .i64 x,.int .i64 a,.int .i64 b] w λe w'=>e= .returned (.bool false)/\w=w':=by
 have h2:¬x<=b:=Aaa
 exact abf
theorem qC (h:x < a\/b < x):Calls prog 47 #[.int .i64 x,.int .i64 a,.int .i64 b] w λe w'=>e= .returned (.bool false)/\w=w':=by
 by_cases h1:x < a
 .exact YF x a b w h1
 .exact Uk x a b w Aaa Aaa
set_option maxHeartbeats 1000000
set_option maxRecDepth 100000
theorem KP (s:ByteArray) (w:World) (hs:s.size<=maxLen):
 Calls prog 93 #[.string s] w λe w'=>e= .returned (.bool (Mth.keyOk s.data.toList))/\w=w':=by
 unfold maxLen at hs;go_in
 go_wp2
 go_loop [3] (λi=>∃k:Nat,k<=s.size/\i= .int .i64 k/\(s.data.toList.take k).all Mth.keyByte=true) (λi=>s.size - (intOf i).toNat)
 case atStart=>exact⟨0,aE1 _,rfl,rfl⟩
 case round=>
  obtain⟨k,hk,rfl,hall⟩:=hrel;have HA:=Hq hall;clear hall;by_cases hlt:k < s.size
  .open asT in exact agM
  .open avC in exact ahl
theorem KO (n:Int) (w:World) (h1:97<=n) (h2:n<=122):Calls prog 207 #[.int .u8 n] w λe w'=>e= .returned (.bool true)/\w=w':=by
 exact abd
theorem Q7 (n:Int) (w:World) (h:n < 97\/122 < n):Calls prog 207 #[.int .u8 n] w λe w'=>e= .returned (.bool false)/\w=w':=by
 by_cases h1:97<=n
 .have h2:¬n<=122:=Aaa
  clear h;exact abd
 .clear h;exact abd
theorem JV (n:Int) (w:World) (h1:48<=n) (h2:n<=57):Calls prog 208 #[.int .u8 n] w λe w'=>e= .returned (.bool true)/\w=w':=by
 exact abe
theorem Ph (n:Int) (w:World) (h:n < 48\/57 < n):Calls prog 208 #[.int .u8 n] w λe w'=>e= .returned (.bool false)/\w=w':=by
 by_cases h1:48<=n
 .have h2:¬n<=57:=Aaa
  clear h;exact abe
 .clear h;exact abe
set_option maxHeartbeats 1000000
theorem J6 (s:ByteArray) (w:World):
 Calls prog 190 #[.string s] w λe w'=>e= .returned (.bool (Mth.keyOk s.data.toList))/\w=w':=by
 by_cases hlen:(1:Int)<=(s.size:Int)/\(s.size:Int)<=10
 .obtain⟨hs1,hs2⟩:=hlen;have hne:s.toList.isEmpty=false:=kJ s Aaa;have h10:decide (10 < (s.size:Int))=false:=Aah
  go_in
  go_wp2
  go_loop [13] (λi=>∃k:Nat,k<=s.size/\i= .int .i64 k/\(s.data.toList.take k).all Mth.keyByte=true) (λi=>s.size - (intOf i).toNat)
  case atStart=>exact⟨0,aE1 _,rfl,rfl⟩
  case round=>
   obtain⟨k,hk,rfl,hall⟩:=hrel;have HA:=Hq hall;clear hall;by_cases hlt:k < s.size
   .open asU in exact agM
   .open avD in exact ahl
 .have HF:Hid (Mth.keyOk s.data.toList=false):=Mth.keyOk_len _ (by rw [aZ];omega);by_cases h0:s.size=0
  .have he:s=ByteArray.empty:=eq_empty s h0;subst he;exact aiR
  .have hne:s.toList.isEmpty=false:=kJ s Aaa;have h10:10 < (s.size:Int):=Aaa
   exact aiR
def yJ (x a b:Int):Prop:=a<=x/\x<=b
instance (x a b:Int):Decidable (yJ x a b):=by unfold yJ;infer_instance
theorem Uj:Calls prog 47 #[.int .i64 x,.int .i64 a,.int .i64 b] w λe w'=>e= .returned (.bool (decide (yJ x a b)))/\w=w':=by
 by_cases h:yJ x a b
 .rw [aEO h];exact nG x a b w h.1 h.2
 .rw [aEN h];exact qC x a b w (by unfold yJ at h;omega)
theorem xH (n:Int) (w:World):Calls prog 91 #[.int .i64 n] w λe w'=>e= .returned (.bool (decide (yJ n 0 1000000000)))/\w=w':=by
 go_in
 go_wp2_with (go_at_call 47;refine(Uj _ _ _ _).mono ?_;rintro e w1 ⟨rfl,rfl⟩)
 go_ret;exact⟨rfl,rfl⟩
def azJ (w:World) (g:Nat) (xs:List ByteArray):Prop:=w.heap[g]?=some (.cells (xs.map Value.string).toArray 9 (0,0))
structure Keeps (g:Nat) (w w':World):Prop where
 os:w'.os=w.os
 tape:w'.tape=w.tape
 output:w'.output=w.output
 size:w.heap.size<=w'.heap.size
 block:∀k,k < w.heap.size->k≠g->w'.heap[k]?=w.heap[k]?
theorem Keeps.refl (g:Nat) (w:World):Keeps g w w:=⟨rfl,rfl,rfl,aEM _,λ_ _ _=>rfl⟩
theorem Keeps.trans {a b c:World} (h:Keeps g a b) (k:Keeps g b c):Keeps g a c:=
 ⟨k.os.trans h.os,k.tape.trans h.tape,k.output.trans h.output,aEP h.size k.size,λi hi hg=>(k.block i (aEU hi h.size) hg).trans (h.block i hi hg)⟩
theorem Keeps.of_below {w w':World} (h:aH w w'):Keeps g w w':=⟨h.os,h.tape,h.output,h.size,λk hk _=>h.block k hk⟩
theorem Keeps.set {i:Nat} {w:World} (v:Value):Keeps g w (w.setCell ⟨g,i,none⟩ v):=
 ⟨rfl,rfl,rfl,Aaq,λk _ hg=>aE9 _ _ _ _ hg⟩
theorem Keeps.below {B:Nat} {w w':World} (h:Keeps g w w') (hB:B<=g) (hs:B<=w.heap.size):Below B w w':=⟨h.os,h.tape,h.output,h.size,λk hk=>h.block k Aaa Aaa⟩
end Go.Proofs.YtbolgdleijjgfaaGreatDoor
namespace Go.Proofs
open Go.Shelf YtbolgdleijjgfaaGreatDoor
def Tryz.sortL_ren:Go.Shelf.Ren:=⟨fun|5=>209|8=>228|7=>227|19=>264|20=>265|10=>255|11=>256|12=>257|13=>258|14=>259|15=>260|16=>261|17=>262|18=>263|30=>282|31=>283|32=>284|33=>285|34=>286|35=>287|40=>299|n=>n,fun|23=>22|25=>3|3=>3|32=>204|22=>22|0=>0|44=>109|46=>283|4=>4|36=>275|35=>274|41=>235|5=>5|9=>9|53=>314|57=>318|63=>337|64=>173|n=>n,fun|n=>n⟩
theorem Tryz.sortL:Go.Proofs.SlLaysM.n5 Tryz.prog Tryz.sortL_ren:={
 mixed:=Aab
 f5:=⟨Tryz.f209.name,Aae,Tryz.func209.trans (congrArg some Aab)⟩
 f7:=⟨Tryz.f227.name,Aae,Tryz.func227.trans (congrArg some Aab)⟩
 f8:=Tryz.func228.trans (congrArg some Aab)
 f10:=⟨Tryz.f255.name,Aae,Tryz.func255.trans (congrArg some Aab)⟩
 f11:=⟨Tryz.f256.name,Aae,Tryz.func256.trans (congrArg some Aab)⟩
 f12:=⟨Tryz.f257.name,Aae,Tryz.func257.trans (congrArg some Aab)⟩
 f13:=⟨Tryz.f258.name,Aae,Tryz.func258.trans (congrArg some Aab)⟩
 f14:=⟨Tryz.f259.name,Aae,Tryz.func259.trans (congrArg some Aab)⟩
 f15:=⟨Tryz.f260.name,Aae,Tryz.func260.trans (congrArg some Aab)⟩
 f16:=⟨Tryz.f261.name,Aae,Tryz.func261.trans (congrArg some Aab)⟩
 f17:=⟨Tryz.f262.name,Aae,Tryz.func262.trans (congrArg some Aab)⟩
 f18:=⟨Tryz.f263.name,Aae,Tryz.func263.trans (congrArg some Aab)⟩
 f19:=Tryz.func264.trans (congrArg some Aab)
 f20:=Tryz.func265.trans (congrArg some Aab)
 f30:=⟨Tryz.f282.name,Aae,Tryz.func282.trans (congrArg some Aab)⟩
 f31:=Tryz.func283.trans (congrArg some Aab)
 f32:=Tryz.func284.trans (congrArg some Aab)
 f33:=⟨Tryz.f285.name,Aae,Tryz.func285.trans (congrArg some Aab)⟩
 f34:=⟨Tryz.f286.name,Aae,Tryz.func286.trans (congrArg some Aab)⟩
 f35:=⟨Tryz.f287.name,Aae,Tryz.func287.trans (congrArg some Aab)⟩
 f40:=⟨Tryz.f299.name,Aae,Tryz.func299.trans (congrArg some Aab)⟩
 t0:=Tryz.underlying0
 a0:=Tryz.isAgg0
 z0:=Tryz.sizeOf0
 v0:=Tryz.zeroValue0
 t3:=Tryz.underlying3
 a3:=Tryz.isAgg3
 z3:=Tryz.sizeOf3
 v3:=Tryz.zeroValue3
 t4:=Tryz.underlying4
 a4:=Tryz.isAgg4
 z4:=Tryz.sizeOf4
 v4:=Tryz.zeroValue4
 t5:=Tryz.underlying5
 a5:=Tryz.isAgg5
 z5:=Tryz.sizeOf5
 v5:=Tryz.zeroValue5
 t9:=Tryz.underlying9
 a9:=Tryz.isAgg9
 z9:=Tryz.sizeOf9
 v9:=Tryz.zeroValue9
 t22:=Tryz.underlying22
 a22:=Tryz.isAgg22
 z22:=Tryz.sizeOf22
 v22:=Tryz.zeroValue22
 t23:=Tryz.underlying22
 a23:=Tryz.isAgg22
 z23:=Tryz.sizeOf22
 v23:=Tryz.zeroValue22
 t25:=Tryz.underlying3
 a25:=Tryz.isAgg3
 z25:=Tryz.sizeOf3
 v25:=Tryz.zeroValue3
 t32:=Tryz.underlying204
 a32:=Tryz.isAgg204
 z32:=Tryz.sizeOf204
 v32:=Tryz.zeroValue204
 t35:=Tryz.underlying274
 a35:=Tryz.isAgg274
 z35:=Tryz.sizeOf274
 v35:=Tryz.zeroValue274
 t36:=Tryz.underlying275
 a36:=Tryz.isAgg275
 z36:=Tryz.sizeOf275
 v36:=Tryz.zeroValue275
 t41:=Tryz.underlying235
 a41:=Tryz.isAgg235
 z41:=Tryz.sizeOf235
 v41:=Tryz.zeroValue235
 t44:=Tryz.underlying109
 a44:=Tryz.isAgg109
 z44:=Tryz.sizeOf109
 v44:=Tryz.zeroValue109
 t46:=Tryz.underlying283
 a46:=Tryz.isAgg283
 z46:=Tryz.sizeOf283
 v46:=Tryz.zeroValue283
 t53:=Tryz.underlying314
 a53:=Tryz.isAgg314
 z53:=Tryz.sizeOf314
 v53:=Tryz.zeroValue314
 t57:=Tryz.underlying318
 a57:=Tryz.isAgg318
 z57:=Tryz.sizeOf318
 v57:=Tryz.zeroValue318
 t63:=Tryz.underlying337
 a63:=Tryz.isAgg337
 z63:=Tryz.sizeOf337
 v63:=Tryz.zeroValue337
 t64:=Tryz.underlying173
 a64:=Tryz.isAgg173
 z64:=Tryz.sizeOf173
 v64:=Tryz.zeroValue173}
end Go.Proofs
namespace Go.Proofs.YtbolgdleijjgfaaGreatDoor.Mth
open Go.Proofs.Tryz
open Mth
variable (s:ByteArray) (k j m v:Nat) (G:Option (Nat×Nat))
def getF:Nat->List UInt8->Nat->Nat->Nat->Option (Nat×Nat)
 |0,_,_,_,_=>none
 |_+1,[],_,_,_=>none
 |f+1,b::r,n,u,j=>if 128<=b.toNat then getF f r (n+b.toNat % 128*u) (u*128) (j+1) else if 4000000000 < n+b.toNat*u\/(b.toNat=0/\0 < j) then none else some (n+b.toNat*u,j+1)
def get (l:List UInt8) (i:Nat):Option (Nat×Nat):=getF 5 (l.drop i) 0 1 0
theorem xC (f n u j:Nat) (b:UInt8) (r:List UInt8) (h:128<=b.toNat):getF (f+1) (b::r) n u j=getF f r (n+b.toNat % 128*u) (u*128) (j+1):=by simp[getF,h]
theorem wG (f n u j:Nat) (b:UInt8) (r:List UInt8) (h:¬128<=b.toNat) (h2:¬(4000000000 < n+b.toNat*u\/(b.toNat=0/\0 < j))):getF (f+1) (b::r) n u j=some (n+b.toNat*u,j+1):=by simp[getF,h,h2]
theorem Fp (f n u j:Nat) (b:UInt8) (r:List UInt8) (h:¬128<=b.toNat) (h2:4000000000 < n+b.toNat*u\/(b.toNat=0/\0 < j)):getF (f+1) (b::r) n u j=none:=by simp[getF,h,h2]
theorem abR (f n u j:Nat):getF f [] n u j=none:=by cases f<;>rfl
theorem drop_cons (s:ByteArray) (k:Nat) (h:k < s.size):s.data.toList.drop k=s[k]::s.data.toList.drop (k+1):=by
 rw [aFy Abm];rfl
theorem Ye (s:ByteArray) (k:Nat) (h:¬k < s.size):s.data.toList.drop k=[]:=by
 apply aF7
 simp only[aFu];show s.size<=k
 omega
theorem get_more (hlt:k < s.size) (hj:j < 5) (hb:128<=s[k].toNat) (h:getF (5 - j) (s.data.toList.drop k) m v j=G):
 getF (5 - (j+1)) (s.data.toList.drop (k+1)) (m+s[k].toNat % 128*v) (v*128) (j+1)=G:=by
 obtain⟨f,hf⟩:∃f,5 - j=f+1:=⟨5 - j - 1,Aaa⟩;grind [drop_cons,xC]
theorem get_hit (hlt:k < s.size) (hj:j < 5) (hb:¬128<=s[k].toNat) (h2:m+s[k].toNat*v<=4000000000) (h3:s[k].toNat≠0\/j=0) (h:getF (5 - j) (s.data.toList.drop k) m v j=G):
 G=some (m+s[k].toNat*v,j+1):=by
 obtain⟨f,hf⟩:∃f,5 - j=f+1:=⟨5 - j - 1,Aaa⟩;grind [drop_cons,wG]
theorem get_bad (hlt:k < s.size) (hj:j < 5) (hb:¬128<=s[k].toNat) (h2:4000000000 < m+s[k].toNat*v\/(s[k].toNat=0/\0 < j)) (h:getF (5 - j) (s.data.toList.drop k) m v j=G):
 G=none:=by
 obtain⟨f,hf⟩:∃f,5 - j=f+1:=⟨5 - j - 1,Aaa⟩;grind [drop_cons,Fp]
theorem get_end (hlt:¬k < s.size) (h:getF (5 - j) (s.data.toList.drop k) m v j=G):G=none:=by
 rw [Ye s k hlt,abR] at h;exact h.symm
theorem get_full (l:List UInt8) (m v:Nat) (G:Option (Nat×Nat)) (h:getF (5 - 5) l m v 5=G):G=none:=by
 simp[getF] at h;exact h.symm
theorem Fq (f:Nat):∀(l:List UInt8) (n u j m c:Nat),getF f l n u j=some (m,c)->m<=4000000000/\j < c/\c<=j+f/\c - j<=l.length:=by
 induction f with
 |zero=>intro l n u j m c h;simp[getF] at h
 |succ f ih=>
  intro l n u j m c h;cases l with
  |nil=>simp[getF] at h
  |cons b r=>
   by_cases hb:128<=b.toNat
   .grind [xC]
   .grind [Fp,wG]
theorem get_bound (l:List UInt8) (i m c:Nat) (h:get l i=some (m,c)):m<=4000000000/\0 < c/\c<=5/\i+c<=l.length:=by
 have:=Fq 5 _ _ _ _ _ _ h;simp at this;omega
def val:List UInt8->Nat
 |[]=>0
 |b::r=>b.toNat % 128+128*val r
theorem val_snoc (l:List UInt8) (b:UInt8):val (l++[b])=val l+b.toNat % 128*128 ^ l.length:=by
 induction l with
 |nil=>simp[val]
 |cons c r ih=>simp only[List.cons_append,val,ih,aF9,Nat.pow_succ];rw [Nat.mul_add,aFp];congr 2;rw [aGF (128 ^ r.length) 128,Nat.mul_left_comm]
theorem alC (l:List UInt8):val l < 128 ^ l.length:=by
 induction l with
 |nil=>simp[val]
 |cons c r ih=>simp only[val,aF9,Nat.pow_succ];have:=Nat.mod_lt c.toNat (show 0 < 128 by omega);omega
theorem ofNat_toNat (b:UInt8):UInt8.ofNat b.toNat=b:=Aac
theorem putF_val (cs:List UInt8) (b:UInt8) (hb:b.toNat < 128):∀(f:Nat),cs.length<=f->(∀c∈cs,128<=c.toNat)->(b.toNat≠0\/cs=[])->putF f (val (cs++[b]))=cs++[b]:=by
 induction cs with
 |nil=>
  intro f _ _ _;have e:val ([]++[b])=b.toNat:=by simp[val];omega
  rw [e,jB _ _ Aaa,ofNat_toNat];rfl
 |cons c r ih=>
  intro f hf hc h0;have h0':b.toNat≠0:=by simpa using h0
  cases f with
  |zero=>simp at hf
  |succ f=>
   have hcc:128<=c.toNat:=hc c Aac;have hc2:=c.toNat_lt
   have hpos:0 < val (r++[b]):=by
    rw [val_snoc];have:0 < 128 ^ r.length:=Nat.pow_pos Aaa;have h1:b.toNat % 128=b.toNat:=Nat.mod_eq_of_lt hb;rw [h1];have:=Nat.mul_pos (Nat.pos_of_ne_zero h0') this;omega
   have e:val ((c::r)++[b])=c.toNat % 128+128*val (r++[b]):=rfl;rw [e,nK _ _ Aaa];have e1:(c.toNat % 128+128*val (r++[b])) % 128=c.toNat % 128:=Aaa
   have e2:(c.toNat % 128+128*val (r++[b])) / 128=val (r++[b]):=Aaa
   rw [e1,e2,ih f Acd (λx hx=>hc x Aai) (.inl h0')];have e3:128+c.toNat % 128=c.toNat:=Aaa
   rw [e3,ofNat_toNat];rfl
theorem Zb (f:Nat):∀(n:Nat),n < 128 ^ (f+1)->0 < n->∃pre b,putF f n=pre++[b]/\b.toNat≠0:=by
 induction f with
 |zero=>intro n h1 h2;refine⟨[],UInt8.ofNat n,rfl,?_⟩;rw [toNat_byte _ (by simp at h1;omega)];omega
 |succ f ih=>
  intro n h1 h2;by_cases h:n<=127
  .grind [jB,toNat_byte]
  .obtain⟨pre,b,e,hb⟩:=ih (n / 128) (by rw [Nat.div_lt_iff_lt_mul Aaa];rw [Nat.pow_succ] at h1;exact h1) Aaa;rw [nK _ _ h,e];exact⟨_::pre,b,rfl,hb⟩
theorem putF_nought (cs:List UInt8) (b:UInt8) (h0:b.toNat=0) (hne:cs≠[]) (f:Nat) (hf:cs.length<=f):putF f (val (cs++[b]))≠cs++[b]:=by
 intro e
 have hv:val (cs++[b]) < 128 ^ (f+1):=by
  have h1:=alC (cs++[b]);have h2:128 ^ (cs++[b]).length<=128 ^ (f+1):=Nat.pow_le_pow_right Aaa Acd;omega
 rcases Nat.eq_zero_or_pos (val (cs++[b])) with hz|hp
 .rw [hz,jB _ _ Aaa] at e;have:=congrArg List.length e;simp at this;exact hne this
 .grind [Zb,List.append_inj_right']
end Go.Proofs.YtbolgdleijjgfaaGreatDoor.Mth
namespace Go.Proofs.YtbolgdleijjgfaaGreatDoor.Mth
open Go.Proofs.Tryz
theorem LV (f:Nat):∀(l pre:List UInt8) (n j m c:Nat),pre.length=j->j+f=5->(∀x∈pre,128<=x.toNat)->n=val pre->getF f l n (128 ^ j) j=some (m,c)->put m=pre++l.take (c - j):=by
 induction f with
 |zero=>intro l pre n j m c _ _ _ _ h;simp[getF] at h
 |succ f ih=>
  intro l pre n j m c hl hj hp hn h;cases l with
  |nil=>simp[getF] at h
  |cons b r=>
   by_cases hb:128<=b.toNat
   .rw [xC _ _ _ _ _ _ hb] at h;have hc:=(Fq f _ _ _ _ _ _ h).2.1
    have:=ih r (pre++[b]) (n+b.toNat % 128*128 ^ j) (j+1) m c Aah Aaa (by
     intro x hx
     rcases aE6.1 hx with hx|hx
     .exact hp x hx
     .simp at hx;subst hx;exact hb) (by rw [val_snoc,hl,hn]) (by rw [Nat.pow_succ];exact h)
    rw [this];obtain⟨d,hd⟩:∃d,c - j=d+1:=⟨c - j - 1,Aaa⟩;have hd2:c - (j+1)=d:=Aaa
    rw [hd,hd2];simp
   .by_cases hx:4000000000 < n+b.toNat*128 ^ j\/(b.toNat=0/\0 < j)
    .rw [Fp _ _ _ _ _ _ hb hx] at h;cases h
    .rw [wG _ _ _ _ _ _ hb hx] at h;simp only[aGc,Prod.mk.injEq] at h;obtain⟨h1,h2⟩:=h;have e:m=val (pre++[b]):=by rw [val_snoc,hl,<-hn,Nat.mod_eq_of_lt Aaa];exact h1.symm
     have e2:c - j=1:=Aaa
     rw [e,e2]
     have:=putF_val pre b Aaa 5 Aaa hp (by
      by_cases hz:b.toNat=0
      .right
       have:j=0:=Aaa
       exact List.length_eq_zero_iff.1 Aaa
      .exact .inl hz)
     unfold put;rw [this];simp
theorem get_was_put (l:List UInt8) (i m c:Nat) (h:get l i=some (m,c)):put m=(l.drop i).take c:=by
 have:=LV 5 (l.drop i) [] 0 0 m c rfl rfl Aac rfl (by rw [Nat.pow_zero];exact h);simpa using this
theorem abS (g:Nat):∀(v f n u j:Nat) (y:List UInt8),v < 128 ^ (g+1)->v < 128 ^ f->0 < f->(v≠0\/j=0)->n+v*u<=4000000000->getF f (putF g v++y) n u j=some (n+v*u,j+(putF g v).length):=by
 induction g with
 |zero=>
  intro v f n u j y hv _ hf hz hb;obtain⟨f',rfl⟩:∃f',f=f'+1:=⟨f - 1,Aaa⟩;have hv':v<=127:=by simp at hv;omega
  have e:(UInt8.ofNat v).toNat=v:=toNat_byte _ Aaa;rw [jB _ _ hv',List.singleton_append,wG _ _ _ _ _ _ Ace Ace,e];simp
 |succ g ih=>
  intro v f n u j y hv hvf hf hz hb;obtain⟨f',rfl⟩:∃f',f=f'+1:=⟨f - 1,Aaa⟩;by_cases hs:v<=127
  .have e:(UInt8.ofNat v).toNat=v:=toNat_byte _ Aaa;rw [jB _ _ hs,List.singleton_append,wG _ _ _ _ _ _ Ace Ace,e];simp
  .have e:(UInt8.ofNat (128+v % 128)).toNat=128+v % 128:=toNat_byte _ Aaa;have hm:(128+v % 128) % 128=v % 128:=Aaa
   have hmul:v % 128*u+v / 128*(u*128)=v*u:=by
    have h1:v=128*(v / 128)+v % 128:=Aaa
    conv=>rhs;rw [h1]
    rw [aGx,aGF u 128,<-Nat.mul_assoc,aGF (v / 128) 128];omega
   have hf':0 < f':=by
    rcases Nat.eq_zero_or_pos f' with h|h
    .subst h;simp at hvf;omega
    .exact h
   rw [nK _ _ hs,List.cons_append,xC _ _ _ _ _ _ Ace,e,hm];rw [ih (v / 128) f' (n+v % 128*u) (u*128) (j+1) y (by rw [Nat.div_lt_iff_lt_mul Aaa];rw [Nat.pow_succ] at hv;exact hv) (by rw [Nat.div_lt_iff_lt_mul Aaa];rw [Nat.pow_succ] at hvf;exact hvf) hf' (.inl Aaa) Aaa];simp only[aF9,aGc,Prod.mk.injEq];omega
end Go.Proofs.YtbolgdleijjgfaaGreatDoor.Mth
namespace Go.Proofs.YtbolgdleijjgfaaGreatDoor
open Go.Proofs.Tryz
set_option maxHeartbeats 4000000
set_option maxRecDepth 100000
open Go.RowKit
open Mth
variable {G:Option (Nat×Nat)} {i:Int}
theorem yZ (i:Int) (w:World):Calls prog 267 #[.int .i64 i] w λe w'=>e= .returned (.iface 287 (.agg #[.iface 289 (.agg #[.int .i64 i])]))/\w=w':=by
 go_in
 go_wp2
 go_ret;exact⟨rfl,rfl⟩
def rX (o:Option (Nat×Nat)) (i:Int):Value:=
 match o with
 |none=> .tuple #[.int .i64 0,.int .i64 0,.iface 287 (.agg #[.iface 289 (.agg #[.int .i64 i])])]
 |some (n,c)=> .tuple #[.int .i64 n,.int .i64 (i+c),.nilIface]
theorem YX (s:ByteArray) (i:Int) (w:World) (h:i < 0):Calls prog 266 #[.string s,.int .i64 i] w λe w'=>e= .returned (rX none i)/\w=w':=by
 go_in
 go_wp2_with (go_at_call 267;refine(yZ _ _).mono ?_;rintro e w' ⟨rfl,rfl⟩)
 go_ret3
 exact⟨rfl,rfl⟩
def qU (j u:Nat):Prop:=(j=0/\u=1)\/(j=1/\u=128)\/(j=2/\u=16384)\/(j=3/\u=2097152)\/(j=4/\u=268435456)\/(j=5/\u=34359738368)
theorem QU {a b:Int} {n c:Nat} (hG:G=some (n,c)) (ha:a=n) (hb:b=i+c):Ending.returned (.tuple #[.int .i64 a,.int .i64 b,.nilIface])= .returned (rX G i):=by
 subst hG;subst ha;subst hb;rfl
theorem adl (hG:G=none):Ending.returned (.tuple #[.int .i64 0,.int .i64 0,.iface 287 (.agg #[.iface 289 (.agg #[.int .i64 i])])])= .returned (rX G i):=by
 subst hG;rfl
theorem Xo {j u:Nat} (h:qU j u):1<=u/\(j < 5->u<=268435456)/\(j < 5->qU (j+1) (u*128))/\(¬j < 5->j=5/\4000000000 < u):=by
 unfold qU at *;rcases h with⟨rfl,rfl⟩|⟨rfl,rfl⟩|⟨rfl,rfl⟩|⟨rfl,rfl⟩|⟨rfl,rfl⟩|⟨rfl,rfl⟩<;>simp
theorem afI (b v:Nat):0<=(b:Int) % 128*(v:Int)/\(b:Int) % 128*(v:Int)<=127*(v:Int):=by
 have h1:0<=(b:Int) % 128:=Aaa
 have h2:(b:Int) % 128<=127:=Aaa
 exact⟨Int.mul_nonneg h1 Aaa,Int.mul_le_mul_of_nonneg_right h2 Aaa⟩
theorem MZ (b v:Nat) (hb:¬128<=b):(b:Int) % 128*(v:Int)=((b*v:Nat):Int):=by
 rw [Int.emod_eq_of_lt Aaa Aaa];simp
theorem QC (m b v:Nat) (hb:¬128<=b) (h:(4000000000:Int) < (m:Int)+(b:Int) % 128*(v:Int)):4000000000 < m+b*v:=by
 rw [MZ b v hb] at h;generalize b*v=x at *;omega
theorem zf (m b v:Nat) (hb:¬128<=b) (h:¬(4000000000:Int) < (m:Int)+(b:Int) % 128*(v:Int)):m+b*v<=4000000000:=by
 rw [MZ b v hb] at h;generalize b*v=x at *;omega
theorem Kr (m b v:Nat) (h:m < v):m+b % 128*v < v*128:=by
 have h1:b % 128<=127:=Aaa
 have h2:=aGe v h1;omega
theorem QE (m b v:Nat) (hb:¬128<=b):(m:Int)+(b:Int) % 128*(v:Int)=((m+b*v:Nat):Int):=by
 rw [MZ b v hb];generalize b*v=x;omega
theorem QD (m b v:Nat) (hb:(b:Int)<=0):(m:Int)=((m+b*v:Nat):Int):=by
 have:b=0:=Aaa
 subst this;simp
theorem azh (s:ByteArray) (i:Nat) (w:World) (hs:s.size<=maxLen):Calls prog 266 #[.string s,.int .i64 i] w λe w'=>e= .returned (rX (Mth.get s.data.toList i) i)/\w=w':=by
 unfold maxLen at hs;have h0:decide ((i:Int) < 0)=false:=Aac
 go_in
 go_wp2
 go_loop [7,8,9] (λn u a=>∃j m v k:Nat,qU j v/\m < v/\n= .int .i64 m/\u= .int .i64 v/\a= .int .i64 k/\k=i+j/\Mth.getF (5 - j) (s.data.toList.drop k) m v j=Mth.get s.data.toList i) (λ_ _ a=>s.size - (intOf a).toNat)
 case atStart=>exact⟨0,0,1,i,.inl ⟨rfl,rfl⟩,Aaa,rfl,rfl,rfl,rfl,rfl⟩
 case round=>
  obtain⟨j,m,v,k,hu,hm,rfl,rfl,rfl,hk,hget⟩:=hrel;have HG:=Hq hget;have HK:=Hq hk;clear hget hk;obtain⟨hv1,hv2,hu2,hv5⟩:=Xo hu;by_cases hlt:k < s.size
  .by_cases hj:j < 5
   .open arz in exact axf
   .obtain⟨rfl,ayz⟩:=hv5 hj;have HR:=Hq (Mth.get_full _ _ _ _ HG);clear hv2 hu2 hv5 hu;exact aeP
  .have HR:=Hq (Mth.get_end s k _ m _ _ hlt HG);clear hv2 hu2 hv5 hu;exact aeP
theorem Tt (w:World):CallsD prog 194 #[] .returning w λe u' w'=>e= .returned (.tuple #[])/\u'= .returning/\w=w':=by
 refine callsD_of_wpS func194 rfl λc₀ cs hu=>?_
 apply wpS_seq
 apply wpS_region
 simp[wpOpsS,go_sem,recoverD,hu,ntmps194,Exit.thenS];refine wpS_of_wp ?_;show Code.wp _ _ _ {tmps:=#[.nilIface,undef,undef,.nilIface,undef,undef,undef,undef,undef,undef,undef,undef,undef,undef],defers:=[]} _
 have hnil:∀W:World,(binOp BinOp.eql 20 .nilIface .nilIface).run prog W= .ok (.bool true) W:=λ_=>by kernel_rfl
 go_wp2_with fail;cases c₀
 simp_all [bodyPostS,results,results194]
theorem Ya (p:Int) (older:List PanicEntry) (w:World):CallsD prog 194 #[] (.panicking ({v:= .iface 221 (.agg #[.int .i64 p]),recovered:=false}::older)) w λe u' w'=>e= .returned (.tuple #[])/\u'= .panicking ({v:= .iface 221 (.agg #[.int .i64 p]),recovered:=true}::older)/\aH w w':=by
 refine callsD_of_wpS func194 rfl λc₀ cs hu=>?_
 apply wpS_seq
 apply wpS_region
 simp[wpOpsS,go_sem,recoverD,hu,ntmps194,Exit.thenS];refine wpS_of_wp ?_;show Code.wp _ _ _ {tmps:=#[.iface 221 (.agg #[.int .i64 p]),undef,undef,.iface 221 (.agg #[.int .i64 p]),undef,undef,undef,undef,undef,undef,undef,undef,undef,undef],defers:=[]} _
 have hnil:∀W:World,(binOp BinOp.eql 20 (.iface 221 (.agg #[.int .i64 p])) .nilIface).run prog W= .ok (.bool false) W:=λ_=>by kernel_rfl
 have has:∀W:World,(Instr.typeAssert (.iface 221 (.agg #[.int .i64 p])) 20 221 true).run prog W= .ok (.tuple #[.agg #[.int .i64 p],.bool true]) W:=λ_=>by kernel_rfl
 go_wp2_with fail;have hb:Below w.heap.size w (w.alloc (.cells #[.int .i64 p] 221)):=(aEY _ _).alloc (aEM _) _;cases c₀
 simp_all [bodyPostS,results,results194]
end Go.Proofs.YtbolgdleijjgfaaGreatDoor
