/- Parts. -/
import Derived.Test.YtohmklmkjmlpjaaGreatDoorRc1
namespace Go.Proofs.YtohmklmkjmlpjaaGreatDoor
open Go.Proofs.Tryz
open Go.RowKit
open Mth
variable (x a b:Int) (w:World) {p:Prop}
theorem qw (h1:a<=x) (h2:x<=b):Calls prog 18 #[.int .i64 x,.int .i64 a,.int .i64 b] w λe w'=>e= .returned (.bool true)/\w=w':=by
 exact abq
theorem YI (h1:x < a):Calls prog 18 #[.int .i64 x,.int .i64 a,.int .i64 b] w λe w'=>e= .returned (.bool false)/\w=w':=by
 have h2:¬a<=x:=Aaa
 exact abq
theorem UE (h1:a<=x) (h3:b < x):Calls prog 18 #[.int .i64 x,.int .i64 a,.int .i64 b] w λe w'=>e= .returned (.bool false)/\w=w':=by
 have h2:¬x<=b:=Aaa
 exact abq
theorem tq (h:x < a\/b < x):Calls prog 18 #[.int .i64 x,.int .i64 a,.int .i64 b] w λe w'=>e= .returned (.bool false)/\w=w':=by
 by_cases h1:x < a
 .exact YI x a b w h1
 .exact UE x a b w Aaa Aaa
set_option maxHeartbeats 1000000
set_option maxRecDepth 100000
theorem K8 (s:ByteArray) (w:World) (hs:s.size<=maxLen):
 Calls prog 52 #[.string s] w λe w'=>e= .returned (.bool (Mth.keyOk s.data.toList))/\w=w':=by
 unfold maxLen at hs;go_in
 go_wp2
 go_loop [3] (λi=>∃k:Nat,k<=s.size/\i= .int .i64 k/\(s.data.toList.take k).all Mth.keyByte=true) (λi=>s.size - (intOf i).toNat)
 case atStart=>exact⟨0,aGB _,rfl,rfl⟩
 case round=>
  obtain⟨k,hk,rfl,hall⟩:=hrel;have HA:=Hq hall;clear hall;by_cases hlt:k < s.size
  .open auo in exact ag9
  .open axd in exact ahU
theorem K7 (n:Int) (w:World) (h1:97<=n) (h2:n<=122):Calls prog 231 #[.int .u8 n] w λe w'=>e= .returned (.bool true)/\w=w':=by
 exact abl
theorem Rh (n:Int) (w:World) (h:n < 97\/122 < n):Calls prog 231 #[.int .u8 n] w λe w'=>e= .returned (.bool false)/\w=w':=by
 by_cases h1:97<=n
 .have h2:¬n<=122:=Aaa
  clear h;exact abl
 .clear h;exact abl
theorem J3 (n:Int) (w:World) (h1:48<=n) (h2:n<=57):Calls prog 232 #[.int .u8 n] w λe w'=>e= .returned (.bool true)/\w=w':=by
 exact abm
theorem Pv (n:Int) (w:World) (h:n < 48\/57 < n):Calls prog 232 #[.int .u8 n] w λe w'=>e= .returned (.bool false)/\w=w':=by
 by_cases h1:48<=n
 .have h2:¬n<=57:=Aaa
  clear h;exact abm
 .clear h;exact abm
set_option maxHeartbeats 1000000
theorem Kh (s:ByteArray) (w:World):
 Calls prog 204 #[.string s] w λe w'=>e= .returned (.bool (Mth.keyOk s.data.toList))/\w=w':=by
 by_cases hlen:(1:Int)<=(s.size:Int)/\(s.size:Int)<=10
 .obtain⟨hs1,hs2⟩:=hlen;have hne:s.toList.isEmpty=false:=kX s Aaa;have h10:decide (10 < (s.size:Int))=false:=Aag
  go_in
  go_wp2
  go_loop [13] (λi=>∃k:Nat,k<=s.size/\i= .int .i64 k/\(s.data.toList.take k).all Mth.keyByte=true) (λi=>s.size - (intOf i).toNat)
  case atStart=>exact⟨0,aGB _,rfl,rfl⟩
  case round=>
   obtain⟨k,hk,rfl,hall⟩:=hrel;have HA:=Hq hall;clear hall;by_cases hlt:k < s.size
   .open aup in exact ag9
   .open axe in exact ahU
 .have HF:Hid (Mth.keyOk s.data.toList=false):=Mth.keyOk_len _ (by rw [aW];omega);by_cases h0:s.size=0
  .have he:s=ByteArray.empty:=eq_empty s h0;subst he;exact ajx
  .have hne:s.toList.isEmpty=false:=kX s Aaa;have h10:10 < (s.size:Int):=Aaa
   exact ajx
namespace Mth
structure Mg where
 K:Int
 F:Int
 T:Int
 I:Int
 L:Int
 k:ByteArray
 N:Int
abbrev bX (K F T I L:Int) (k:ByteArray) (N:Int):Array Value:=#[.int .i64 K,.int .i64 F,.int .i64 T,.int .i64 I,.int .i64 L,.string k,.int .i64 N]
abbrev oz (m:Mg):Value:= .agg #[.int .i64 m.K,.int .i64 m.F,.int .i64 m.T,.int .i64 m.I,.int .i64 m.L,.string m.k,.int .i64 m.N]
def uU (n:Int):Bool:=decide (0<=n/\n<=29)
def fO (n:Int):Bool:=decide (1<=n/\n<=1000000000)
def nC (f t:Int):Bool:=uU f&&uU t&&decide (f≠t)
def cZ (m:Mg):Bool:=
 nC m.F m.T&&
  (if m.K=0 then keyOk m.k.data.toList&&fO m.N&&decide (m.I=0)&&decide (m.L=0)
   else if m.K=1 then keyOk m.k.data.toList&&fO m.N&&fO m.I&&decide (1<=m.L/\m.L<=m.I)
   else if m.K=2 then fO m.I&&decide (m.k.size=0)&&decide (m.N=0)&&decide (m.L=0)
   else false)
end Mth
open Go.RowKit
open Mth
theorem wp_at {P:Program} {Q:Exit->Act->World->Prop} {c:Code} {a:Act} {W:World} (h:∀W',W'=W->Code.wp P c Q a W'):Code.wp P c Q a W:=h W rfl
theorem ay (w:World) (o:Obj):Below w.heap.size w (w.alloc o):=(aGs _ _).alloc (aGh _) _
theorem KV [Decidable p] (h:¬p):Ending.returned (.bool false)= .returned (.bool (decide p)):=by rw [aGi h]
theorem Xn {q:Prop} [Decidable p] [Decidable q] (h:p↔q):Ending.returned (.bool (decide p))= .returned (.bool (decide q)):=by rw [decide_eq_decide.2 h]
theorem yQ (x a b:Int) (r:Bool) (w:World) (h:decide (a<=x/\x<=b)=r):Calls Tryz.prog 18 #[.int .i64 x,.int .i64 a,.int .i64 b] w λe w'=>e= .returned (.bool r)/\w=w':=by
 subst h;by_cases h:a<=x/\x<=b
 .rw [aGk h];exact qw x a b w h.1 h.2
 .rw [aGi h];exact tq x a b w Aaa
theorem nV (n:Int) (r:Bool) (w:World) (h:uU n=r):Calls Tryz.prog 100 #[.int .i64 n] w λe w'=>e= .returned (.bool r)/\w=w':=by
 go_in
 exact ajk
theorem eU (n:Int) (r:Bool) (w:World) (h:fO n=r):Calls Tryz.prog 49 #[.int .i64 n] w λe w'=>e= .returned (.bool r)/\w=w':=by
 go_in
 exact ajk
theorem isNode (n:Int) (r:Bool) (w:World) (h:uU n=r):Calls Tryz.prog 201 #[.int .i64 n] w λe w'=>e= .returned (.bool r)/\w=w':=by
 subst h;by_cases h0:0<=n
 .go_in
  go_wp2
  go_ret;exact⟨Xn Aaa,rfl⟩
 .go_in
  go_wp2
  go_ret;exact⟨KV Aaa,rfl⟩
theorem aQ (n:Int) (r:Bool) (w:World) (h:fO n=r):Calls Tryz.prog 169 #[.int .i64 n] w λe w'=>e= .returned (.bool r)/\w=w':=by
 subst h;by_cases h0:1<=n
 .go_in
  go_wp2
  go_ret;exact⟨Xn Aaa,rfl⟩
 .go_in
  go_wp2
  go_ret;exact⟨KV Aaa,rfl⟩
theorem iH (s:ByteArray) (b:Bool) (w:World) (h:keyOk s.data.toList=b):Calls Tryz.prog 204 #[.string s] w λe w'=>e= .returned (.bool b)/\w=w':=by
 rw [<-h];exact Kh s w
theorem oJ (s:ByteArray) (b:Bool) (w:World) (hs:s.size<=maxLen) (h:keyOk s.data.toList=b):Calls Tryz.prog 52 #[.string s] w λe w'=>e= .returned (.bool b)/\w=w':=by
 rw [<-h];exact K8 s w hs
def yI (x a b:Int):Prop:=a<=x/\x<=b
instance (x a b:Int):Decidable (yI x a b):=by unfold yI;infer_instance
theorem UD:Calls Tryz.prog 18 #[.int .i64 x,.int .i64 a,.int .i64 b] w λe w'=>e= .returned (.bool (decide (yI x a b)))/\w=w':=by
 by_cases h:yI x a b
 .rw [aGk h];exact qw x a b w h.1 h.2
 .rw [aGi h];exact tq x a b w (by unfold yI at h;omega)
theorem xC (n:Int) (w:World):Calls Tryz.prog 50 #[.int .i64 n] w λe w'=>e= .returned (.bool (decide (yI n 0 1000000000)))/\w=w':=by
 go_in
 go_wp2_with (go_at_call 18;refine(UD _ _ _ _).mono ?_;rintro e w1 ⟨rfl,rfl⟩)
 go_ret;exact⟨rfl,rfl⟩
namespace Mth
structure gW where
 K:Int
 no:Int
 k:ByteArray
 n:Int
 m:Mg
def lY (m:Mg):Bool:=decide (m.K=0/\m.F=0/\m.T=0/\m.I=0/\m.L=0/\m.k.toList=[]/\m.N=0)
def cK (o:gW):Bool:=
 if o.K=0\/o.K=3\/o.K=4 then keyOk o.k.data.toList&&fO o.n&&decide (o.no=0)&&lY o.m
 else if o.K=1 then keyOk o.k.data.toList&&fO o.n&&fO o.no&&lY o.m
 else if o.K=2 then decide (o.k.toList=[])&&decide (o.n=0)&&fO o.no&&lY o.m
 else if o.K=5 then decide (o.k.toList=[])&&decide (o.n=0)&&decide (o.no=0)&&lY o.m
 else if o.K=6 then decide (o.k.toList=[])&&decide (o.n=0)&&decide (o.no=0)&&cZ o.m
 else false
end Mth
abbrev cu (K no:Int) (k:ByteArray) (nn mK mF mT mI mL:Int) (mk:ByteArray) (mN:Int):Array Value:=#[.int .i64 K,.int .i64 no,.string k,.int .i64 nn,.int .i64 mK,.int .i64 mF,.int .i64 mT,.int .i64 mI,.int .i64 mL,.string mk,.int .i64 mN]
abbrev jY (o:gW):Value:= .agg #[.int .i64 o.K,.int .i64 o.no,.string o.k,.int .i64 o.n,.int .i64 o.m.K,.int .i64 o.m.F,.int .i64 o.m.T,.int .i64 o.m.I,.int .i64 o.m.L,.string o.m.k,.int .i64 o.m.N]
end Go.Proofs.YtohmklmkjmlpjaaGreatDoor
namespace Go.Proofs.YtohmklmkjmlpjaaGreatDoor.Mth
open Go.Proofs.Tryz
open Mth
variable (s:ByteArray) (k j m v:Nat) (G:Option (Nat×Nat))
def getF:Nat->List UInt8->Nat->Nat->Nat->Option (Nat×Nat)
 |0,_,_,_,_=>none
 |_+1,[],_,_,_=>none
 |f+1,b::r,n,u,j=>if 128<=b.toNat then getF f r (n+b.toNat % 128*u) (u*128) (j+1) else if 4000000000 < n+b.toNat*u\/(b.toNat=0/\0 < j) then none else some (n+b.toNat*u,j+1)
def get (l:List UInt8) (i:Nat):Option (Nat×Nat):=getF 5 (l.drop i) 0 1 0
theorem xu (f n u j:Nat) (b:UInt8) (r:List UInt8) (h:128<=b.toNat):getF (f+1) (b::r) n u j=getF f r (n+b.toNat % 128*u) (u*128) (j+1):=by simp[getF,h]
theorem wF (f n u j:Nat) (b:UInt8) (r:List UInt8) (h:¬128<=b.toNat) (h2:¬(4000000000 < n+b.toNat*u\/(b.toNat=0/\0 < j))):getF (f+1) (b::r) n u j=some (n+b.toNat*u,j+1):=by simp[getF,h,h2]
theorem Fv (f n u j:Nat) (b:UInt8) (r:List UInt8) (h:¬128<=b.toNat) (h2:4000000000 < n+b.toNat*u\/(b.toNat=0/\0 < j)):getF (f+1) (b::r) n u j=none:=by simp[getF,h,h2]
theorem ab5 (f n u j:Nat):getF f [] n u j=none:=by cases f<;>rfl
theorem drop_cons (s:ByteArray) (k:Nat) (h:k < s.size):s.data.toList.drop k=s[k]::s.data.toList.drop (k+1):=by
 rw [aG1 Abd];rfl
theorem Ye (s:ByteArray) (k:Nat) (h:¬k < s.size):s.data.toList.drop k=[]:=by
 apply aHA
 simp only[aG2];show s.size<=k
 omega
theorem get_more (hlt:k < s.size) (hj:j < 5) (hb:128<=s[k].toNat) (h:getF (5 - j) (s.data.toList.drop k) m v j=G):
 getF (5 - (j+1)) (s.data.toList.drop (k+1)) (m+s[k].toNat % 128*v) (v*128) (j+1)=G:=by
 obtain⟨f,hf⟩:∃f,5 - j=f+1:=⟨5 - j - 1,Aaa⟩;rw [hf,drop_cons s k hlt,xu _ _ _ _ _ _ hb] at h;rw [<-h];congr 1;omega
theorem get_hit (hlt:k < s.size) (hj:j < 5) (hb:¬128<=s[k].toNat) (h2:m+s[k].toNat*v<=4000000000) (h3:s[k].toNat≠0\/j=0) (h:getF (5 - j) (s.data.toList.drop k) m v j=G):
 G=some (m+s[k].toNat*v,j+1):=by
 obtain⟨f,hf⟩:∃f,5 - j=f+1:=⟨5 - j - 1,Aaa⟩;rw [hf,drop_cons s k hlt,wF _ _ _ _ _ _ hb Aaa] at h;exact h.symm
theorem get_bad (hlt:k < s.size) (hj:j < 5) (hb:¬128<=s[k].toNat) (h2:4000000000 < m+s[k].toNat*v\/(s[k].toNat=0/\0 < j)) (h:getF (5 - j) (s.data.toList.drop k) m v j=G):
 G=none:=by
 obtain⟨f,hf⟩:∃f,5 - j=f+1:=⟨5 - j - 1,Aaa⟩;rw [hf,drop_cons s k hlt,Fv _ _ _ _ _ _ hb h2] at h;exact h.symm
theorem get_end (hlt:¬k < s.size) (h:getF (5 - j) (s.data.toList.drop k) m v j=G):G=none:=by
 rw [Ye s k hlt,ab5] at h;exact h.symm
theorem get_full (l:List UInt8) (m v:Nat) (G:Option (Nat×Nat)) (h:getF (5 - 5) l m v 5=G):G=none:=by
 simp[getF] at h;exact h.symm
theorem Fw (f:Nat):∀(l:List UInt8) (n u j m c:Nat),getF f l n u j=some (m,c)->m<=4000000000/\j < c/\c<=j+f/\c - j<=l.length:=by
 induction f with
 |zero=>intro l n u j m c h;simp[getF] at h
 |succ f ih=>
  intro l n u j m c h;cases l with
  |nil=>simp[getF] at h
  |cons b r=>
   by_cases hb:128<=b.toNat
   .rw [xu _ _ _ _ _ _ hb] at h;have:=ih _ _ _ _ _ _ h;simp;omega
   .by_cases hx:4000000000 < n+b.toNat*u\/(b.toNat=0/\0 < j)
    .rw [Fv _ _ _ _ _ _ hb hx] at h;cases h
    .rw [wF _ _ _ _ _ _ hb hx] at h;simp at h;simp;omega
theorem get_bound (l:List UInt8) (i m c:Nat) (h:get l i=some (m,c)):m<=4000000000/\0 < c/\c<=5/\i+c<=l.length:=by
 have:=Fw 5 _ _ _ _ _ _ h;simp at this;omega
def val:List UInt8->Nat
 |[]=>0
 |b::r=>b.toNat % 128+128*val r
theorem val_snoc (l:List UInt8) (b:UInt8):val (l++[b])=val l+b.toNat % 128*128 ^ l.length:=by
 induction l with
 |nil=>simp[val]
 |cons c r ih=>simp only[List.cons_append,val,ih,aHt,Nat.pow_succ];rw [Nat.mul_add,aGI];congr 2;rw [aIj (128 ^ r.length) 128,Nat.mul_left_comm]
theorem ami (l:List UInt8):val l < 128 ^ l.length:=by
 induction l with
 |nil=>simp[val]
 |cons c r ih=>simp only[val,aHt,Nat.pow_succ];have:=Nat.mod_lt c.toNat (show 0 < 128 by omega);omega
theorem ofNat_toNat (b:UInt8):UInt8.ofNat b.toNat=b:=Aac
theorem putF_val (cs:List UInt8) (b:UInt8) (hb:b.toNat < 128):∀(f:Nat),cs.length<=f->(∀c∈cs,128<=c.toNat)->(b.toNat≠0\/cs=[])->putF f (val (cs++[b]))=cs++[b]:=by
 induction cs with
 |nil=>
  intro f _ _ _;have e:val ([]++[b])=b.toNat:=by simp[val];omega
  rw [e,jL _ _ Aaa,ofNat_toNat];rfl
 |cons c r ih=>
  intro f hf hc h0;have h0':b.toNat≠0:=by simpa using h0
  cases f with
  |zero=>simp at hf
  |succ f=>
   have hcc:128<=c.toNat:=hc c Aac;have hc2:=c.toNat_lt
   have hpos:0 < val (r++[b]):=by
    rw [val_snoc];have:0 < 128 ^ r.length:=Nat.pow_pos Aaa;have h1:b.toNat % 128=b.toNat:=Nat.mod_eq_of_lt hb;rw [h1];have:=Nat.mul_pos (Nat.pos_of_ne_zero h0') this;omega
   have e:val ((c::r)++[b])=c.toNat % 128+128*val (r++[b]):=rfl;rw [e,nP _ _ Aaa];have e1:(c.toNat % 128+128*val (r++[b])) % 128=c.toNat % 128:=Aaa
   have e2:(c.toNat % 128+128*val (r++[b])) / 128=val (r++[b]):=Aaa
   rw [e1,e2,ih f (by simpa using hf) (λx hx=>hc x Aan) (.inl h0')];have e3:128+c.toNat % 128=c.toNat:=Aaa
   rw [e3,ofNat_toNat];rfl
theorem Zd (f:Nat):∀(n:Nat),n < 128 ^ (f+1)->0 < n->∃pre b,putF f n=pre++[b]/\b.toNat≠0:=by
 induction f with
 |zero=>intro n h1 h2;refine⟨[],UInt8.ofNat n,rfl,?_⟩;rw [toNat_byte _ (by simp at h1;omega)];omega
 |succ f ih=>
  intro n h1 h2;by_cases h:n<=127
  .rw [jL _ _ h];refine⟨[],UInt8.ofNat n,rfl,?_⟩;rw [toNat_byte _ Aaa];omega
  .obtain⟨pre,b,e,hb⟩:=ih (n / 128) (by rw [Nat.div_lt_iff_lt_mul Aaa];rw [Nat.pow_succ] at h1;exact h1) Aaa;rw [nP _ _ h,e];exact⟨_::pre,b,rfl,hb⟩
theorem putF_nought (cs:List UInt8) (b:UInt8) (h0:b.toNat=0) (hne:cs≠[]) (f:Nat) (hf:cs.length<=f):putF f (val (cs++[b]))≠cs++[b]:=by
 intro e
 have hv:val (cs++[b]) < 128 ^ (f+1):=by
  have h1:=ami (cs++[b]);have h2:128 ^ (cs++[b]).length<=128 ^ (f+1):=Nat.pow_le_pow_right Aaa (by simpa using hf);omega
 rcases Nat.eq_zero_or_pos (val (cs++[b])) with hz|hp
 .rw [hz,jL _ _ Aaa] at e;have:=congrArg List.length e;simp at this;exact hne this
 .obtain⟨pre,b',e',hb'⟩:=Zd f _ hv hp;rw [e] at e';have:=List.append_inj_right' e' rfl;simp at this;subst this;exact hb' h0
end Go.Proofs.YtohmklmkjmlpjaaGreatDoor.Mth
namespace Go.Proofs.YtohmklmkjmlpjaaGreatDoor.Mth
open Go.Proofs.Tryz
theorem Mf (f:Nat):∀(l pre:List UInt8) (n j m c:Nat),pre.length=j->j+f=5->(∀x∈pre,128<=x.toNat)->n=val pre->getF f l n (128 ^ j) j=some (m,c)->put m=pre++l.take (c - j):=by
 induction f with
 |zero=>intro l pre n j m c _ _ _ _ h;simp[getF] at h
 |succ f ih=>
  intro l pre n j m c hl hj hp hn h;cases l with
  |nil=>simp[getF] at h
  |cons b r=>
   by_cases hb:128<=b.toNat
   .rw [xu _ _ _ _ _ _ hb] at h;have hc:=(Fw f _ _ _ _ _ _ h).2.1
    have:=ih r (pre++[b]) (n+b.toNat % 128*128 ^ j) (j+1) m c Aag Aaa (by
     intro x hx
     rcases aGE.1 hx with hx|hx
     .exact hp x hx
     .simp at hx;subst hx;exact hb) (by rw [val_snoc,hl,hn]) (by rw [Nat.pow_succ];exact h)
    rw [this];obtain⟨d,hd⟩:∃d,c - j=d+1:=⟨c - j - 1,Aaa⟩;have hd2:c - (j+1)=d:=Aaa
    rw [hd,hd2];simp
   .by_cases hx:4000000000 < n+b.toNat*128 ^ j\/(b.toNat=0/\0 < j)
    .rw [Fv _ _ _ _ _ _ hb hx] at h;cases h
    .rw [wF _ _ _ _ _ _ hb hx] at h;simp only[aHM,Prod.mk.injEq] at h;obtain⟨h1,h2⟩:=h;have e:m=val (pre++[b]):=by rw [val_snoc,hl,<-hn,Nat.mod_eq_of_lt Aaa];exact h1.symm
     have e2:c - j=1:=Aaa
     rw [e,e2]
     have:=putF_val pre b Aaa 5 Aaa hp (by
      by_cases hz:b.toNat=0
      .right
       have:j=0:=Aaa
       exact List.length_eq_zero_iff.1 Aaa
      .exact .inl hz)
     unfold put;rw [this];simp
theorem get_was_put (l:List UInt8) (i m c:Nat) (h:get l i=some (m,c)):put m=(l.drop i).take c:=by
 have:=Mf 5 (l.drop i) [] 0 0 m c rfl rfl Aac rfl (by rw [Nat.pow_zero];exact h);simpa using this
theorem ab6 (g:Nat):∀(v f n u j:Nat) (y:List UInt8),v < 128 ^ (g+1)->v < 128 ^ f->0 < f->(v≠0\/j=0)->n+v*u<=4000000000->getF f (putF g v++y) n u j=some (n+v*u,j+(putF g v).length):=by
 induction g with
 |zero=>
  intro v f n u j y hv _ hf hz hb;obtain⟨f',rfl⟩:∃f',f=f'+1:=⟨f - 1,Aaa⟩;have hv':v<=127:=by simp at hv;omega
  have e:(UInt8.ofNat v).toNat=v:=toNat_byte _ Aaa;rw [jL _ _ hv',List.singleton_append,wF _ _ _ _ _ _ Ach Ach,e];simp
 |succ g ih=>
  intro v f n u j y hv hvf hf hz hb;obtain⟨f',rfl⟩:∃f',f=f'+1:=⟨f - 1,Aaa⟩;by_cases hs:v<=127
  .have e:(UInt8.ofNat v).toNat=v:=toNat_byte _ Aaa;rw [jL _ _ hs,List.singleton_append,wF _ _ _ _ _ _ Ach Ach,e];simp
  .have e:(UInt8.ofNat (128+v % 128)).toNat=128+v % 128:=toNat_byte _ Aaa;have hm:(128+v % 128) % 128=v % 128:=Aaa
   have hmul:v % 128*u+v / 128*(u*128)=v*u:=by
    have h1:v=128*(v / 128)+v % 128:=Aaa
    conv=>rhs;rw [h1]
    rw [aIh,aIj u 128,<-Nat.mul_assoc,aIj (v / 128) 128];omega
   have hf':0 < f':=by
    rcases Nat.eq_zero_or_pos f' with h|h
    .subst h;simp at hvf;omega
    .exact h
   rw [nP _ _ hs,List.cons_append,xu _ _ _ _ _ _ Ach,e,hm];rw [ih (v / 128) f' (n+v % 128*u) (u*128) (j+1) y (by rw [Nat.div_lt_iff_lt_mul Aaa];rw [Nat.pow_succ] at hv;exact hv) (by rw [Nat.div_lt_iff_lt_mul Aaa];rw [Nat.pow_succ] at hvf;exact hvf) hf' (.inl Aaa) Aaa];simp only[aHt,aHM,Prod.mk.injEq];omega
end Go.Proofs.YtohmklmkjmlpjaaGreatDoor.Mth
namespace Go.Proofs.YtohmklmkjmlpjaaGreatDoor
open Go.Proofs.Tryz
set_option maxHeartbeats 4000000
set_option maxRecDepth 100000
open Go.RowKit
open Mth
variable (s:ByteArray) {G:Option (Nat×Nat)} {i a b:Int} {n c:Nat}
theorem yV (i:Int) (w:World):Calls prog 252 #[.int .i64 i] w λe w'=>e= .returned (.iface 272 (.agg #[.iface 274 (.agg #[.int .i64 i])]))/\w=w':=by
 go_in
 go_wp2
 go_ret;exact⟨rfl,rfl⟩
def rX (o:Option (Nat×Nat)) (i:Int):Value:=
 match o with
 |none=> .tuple #[.int .i64 0,.int .i64 0,.iface 272 (.agg #[.iface 274 (.agg #[.int .i64 i])])]
 |some (n,c)=> .tuple #[.int .i64 n,.int .i64 (i+c),.nilIface]
theorem Y6 (i:Int) (w:World) (h:i < 0):Calls prog 251 #[.string s,.int .i64 i] w λe w'=>e= .returned (rX none i)/\w=w':=by
 go_in
 go_wp2_with (go_at_call 252;refine(yV _ _).mono ?_;rintro e w' ⟨rfl,rfl⟩)
 go_ret3
 exact⟨rfl,rfl⟩
def qW (j u:Nat):Prop:=(j=0/\u=1)\/(j=1/\u=128)\/(j=2/\u=16384)\/(j=3/\u=2097152)\/(j=4/\u=268435456)\/(j=5/\u=34359738368)
theorem Q6 (hG:G=some (n,c)) (ha:a=n) (hb:b=i+c):Ending.returned (.tuple #[.int .i64 a,.int .i64 b,.nilIface])= .returned (rX G i):=by
 subst hG;subst ha;subst hb;rfl
theorem adJ (hG:G=none):Ending.returned (.tuple #[.int .i64 0,.int .i64 0,.iface 272 (.agg #[.iface 274 (.agg #[.int .i64 i])])])= .returned (rX G i):=by
 subst hG;rfl
theorem Xv {j u:Nat} (h:qW j u):1<=u/\(j < 5->u<=268435456)/\(j < 5->qW (j+1) (u*128))/\(¬j < 5->j=5/\4000000000 < u):=by
 unfold qW at *;rcases h with⟨rfl,rfl⟩|⟨rfl,rfl⟩|⟨rfl,rfl⟩|⟨rfl,rfl⟩|⟨rfl,rfl⟩|⟨rfl,rfl⟩<;>simp
theorem afT (b v:Nat):0<=(b:Int) % 128*(v:Int)/\(b:Int) % 128*(v:Int)<=127*(v:Int):=by
 have h1:0<=(b:Int) % 128:=Aaa
 have h2:(b:Int) % 128<=127:=Aaa
 exact⟨Int.mul_nonneg h1 Aaa,Int.mul_le_mul_of_nonneg_right h2 Aaa⟩
theorem Nj (b v:Nat) (hb:¬128<=b):(b:Int) % 128*(v:Int)=((b*v:Nat):Int):=by
 rw [Int.emod_eq_of_lt Aaa Aaa];simp
theorem QK (m b v:Nat) (hb:¬128<=b) (h:(4000000000:Int) < (m:Int)+(b:Int) % 128*(v:Int)):4000000000 < m+b*v:=by
 rw [Nj b v hb] at h;generalize b*v=x at *;omega
theorem yY (m b v:Nat) (hb:¬128<=b) (h:¬(4000000000:Int) < (m:Int)+(b:Int) % 128*(v:Int)):m+b*v<=4000000000:=by
 rw [Nj b v hb] at h;generalize b*v=x at *;omega
theorem KF (m b v:Nat) (h:m < v):m+b % 128*v < v*128:=by
 have h1:b % 128<=127:=Aaa
 have h2:=aHZ v h1;omega
theorem QN (m b v:Nat) (hb:¬128<=b):(m:Int)+(b:Int) % 128*(v:Int)=((m+b*v:Nat):Int):=by
 rw [Nj b v hb];generalize b*v=x;omega
theorem QM (m b v:Nat) (hb:(b:Int)<=0):(m:Int)=((m+b*v:Nat):Int):=by
 have:b=0:=Aaa
 subst this;simp
theorem aA4 (i:Nat) (w:World) (hs:s.size<=maxLen):Calls prog 251 #[.string s,.int .i64 i] w λe w'=>e= .returned (rX (Mth.get s.data.toList i) i)/\w=w':=by
 unfold maxLen at hs;have h0:decide ((i:Int) < 0)=false:=Aac
 go_in
 go_wp2
 go_loop [7,8,9] (λn u a=>∃j m v k:Nat,qW j v/\m < v/\n= .int .i64 m/\u= .int .i64 v/\a= .int .i64 k/\k=i+j/\Mth.getF (5 - j) (s.data.toList.drop k) m v j=Mth.get s.data.toList i) (λ_ _ a=>s.size - (intOf a).toNat)
 case atStart=>exact⟨0,0,1,i,.inl ⟨rfl,rfl⟩,Aaa,rfl,rfl,rfl,rfl,rfl⟩
 case round=>
  obtain⟨j,m,v,k,hu,hm,rfl,rfl,rfl,hk,hget⟩:=hrel;have HG:=Hq hget;have HK:=Hq hk;clear hget hk;obtain⟨hv1,hv2,hu2,hv5⟩:=Xv hu;by_cases hlt:k < s.size
  .by_cases hj:j < 5
   .open asZ in exact agM
   .obtain⟨rfl,aAv⟩:=hv5 hj;have HR:=Hq (Mth.get_full _ _ _ _ HG);clear hv2 hu2 hv5 hu;exact aeX
  .have HR:=Hq (Mth.get_end s k _ m _ _ hlt HG);clear hv2 hu2 hv5 hu;exact aeX
set_option maxHeartbeats 1000000
theorem alT:(prog.info? 5).map (λi=>(i.zero,i.size,i.bytes))=some (some (.int .u8 0),1,1):=Aab
theorem vP (n:Int) (w:World) (h:n < 0\/4000000000 < n):
 Calls prog 139 #[.int .i64 n] w λe w'=>e= .returned (.string ByteArray.empty)/\w=w':=by
 go_in
 go_wp2_with (go_at_call 18;refine(tq _ _ _ _ h).mono ?_;rintro e w' ⟨rfl,rfl⟩)
 go_ret;exact⟨rfl,rfl⟩
theorem GU (n:Nat) (w:World) (h:n<=4000000000):
 Calls prog 139 #[.int .i64 n] w (dZ w (.string ⟨(Mth.put n).toArray⟩)):=by
 obtain⟨i0,hi,hz0,hz1,hz2⟩:=aGV alT;go_in
 go_wp2_with (go_at_call 18;refine(qw _ _ _ _ ?_ ?_).mono ?_;omega;omega;rintro e w' ⟨rfl,rfl⟩)
 go_loopw [0,3] (λm v wr=>∃f cur pre,f<=5/\cur<=4000000000/\cur < 128 ^ (f+1)/\pre.length+f=5/\pre++Mth.putF f cur=Mth.put n/\m= .int .i64 (cur:Nat)/\wr.ownsRow w.heap.size 5 1 v pre.length (pre.map bv)/\aI w wr) (λm _ _=>(intOf m).toNat)
 case atStart=>exact⟨5,n,[],Aaa,Aaa,Aaa,rfl,rfl,rfl,aGY _ #[] 0 (aGh _) Aae rfl,(aGs _ _).alloc (aGh _) _⟩
 case round=>
  obtain⟨f,cur,pre,hf,hc9,hcur,hpf,hput,rfl,hown,hbel⟩:=hrel;have HP:=Hq hput;clear hput;by_cases hbig:cur<=127
  .have HE:=Hq (Mth.put_end n f cur pre hbig HP);go_wp2_with (at_builtin;refine aHg _ rfl _ _ 162 rfl w.heap.size 5 i0 (.int .u8 0) 1 1 underlying162 hi hz0 hz1 hz2 rfl Aae _ _ _ rfl (hown.alloc _) ⟨wr.heap.size,0,none⟩ 1 1 [.int .u8 (cur:Int)] rfl rfl ?c1 ?c2 ?c3 ?c4 ?c5 ?_)
   case c1=>exact cell_one_new _ _ _
   case c2=>intro u hu;simp at hu;subst hu;rfl
   case c3=>unfold maxLen;omega
   case c4=>omega
   case c5=>have:=hbel.size;simp;omega
   intro v' w1 hown' hgrow _;have PO:=below_append hbel hown hgrow;have hown2:=QI (UInt8.ofNat cur) (by rw [Mth.toNat_byte _ Aaa]) hown';rw [ah HE] at hown2;have ace:=TV 162 9 underlying162 underlying5 underlying9 hown2;clear hown' hgrow hown hown2 hbel HE;go_wp2
   go_ret;exact⟨rfl,PO⟩
  .obtain⟨f',rfl,hc2,hl2,hp2⟩:=Mth.put_round n f cur pre hcur hbig hpf HP;have yG:=Hq hp2;clear hp2 HP;go_wp2_with (at_builtin;refine aHg _ rfl _ _ 162 rfl w.heap.size 5 i0 (.int .u8 0) 1 1 underlying162 hi hz0 hz1 hz2 rfl Aae _ _ _ rfl (hown.alloc _) ⟨wr.heap.size,0,none⟩ 1 1 [.int .u8 (128+(cur:Int) % 128)] rfl rfl ?d1 ?d2 ?d3 ?d4 ?d5 ?_)
   case d1=>exact cell_one_new _ _ _
   case d2=>intro u hu;simp at hu;subst hu;rfl
   case d3=>unfold maxLen;omega
   case d4=>omega
   case d5=>have:=hbel.size;simp;omega
   intro v' w1 hown' hgrow _;have PO:=below_append hbel hown hgrow;have hown2:=QI (UInt8.ofNat (128+cur % 128)) (by rw [Mth.toNat_byte _ Aaa];omega) hown';clear hown' hgrow hown hbel;go_wp2
   go_roundw
   case rel=>exact⟨f',cur / 128,_,Aaa,Aaa,hc2,hl2,yG,Aaf,hown2,PO⟩
   case measure=>simp[intOf];omega
theorem wT (n:Int) (w:World) (h0:0<=n) (h:n<=4000000000):
 Calls prog 139 #[.int .i64 n] w (dZ w (.string ⟨(Mth.put n.toNat).toArray⟩)):=by
 obtain⟨m,rfl⟩:=Int.eq_ofNat_of_zero_le h0;exact GU m w Aaa
def wG (o:Option (Nat×Nat)) (i:Int):Value:=
 match o with
 |none=> .tuple #[.int .i64 0,.int .i64 (-1)]
 |some (n,c)=> .tuple #[.int .i64 n,.int .i64 (i+c)]
theorem get_some (hG:G=some (n,c)) (ha:a=n) (hb:b=i+c):Ending.returned (.tuple #[.int .i64 a,.int .i64 b])= .returned (wG G i):=by
 subst hG;subst ha;subst hb;rfl
theorem get_none (hG:G=none):Ending.returned (.tuple #[.int .i64 0,.int .i64 (-1)])= .returned (wG G i):=by
 subst hG;rfl
theorem zX (i j k:Nat) (hk:k=i+j) (hlt:k < s.size):(s.extract i (k+1)).toList=(s.data.toList.drop i).take j++[s[k]]:=by
 subst hk;rw [aHW];have e:i+j+1 - i=j+1:=Aaa
 rw [e,aGt (by simp;show j < s.size - i;omega)];simp;rfl
theorem ad7 {j v:Nat} (h:qW j v):v=128 ^ j:=by
 unfold qW at h;rcases h with⟨rfl,rfl⟩|⟨rfl,rfl⟩|⟨rfl,rfl⟩|⟨rfl,rfl⟩|⟨rfl,rfl⟩|⟨rfl,rfl⟩<;>rfl
def ze (s:ByteArray) (i j m:Nat):Prop:=((s.data.toList.drop i).take j).length=j/\(∀c∈(s.data.toList.drop i).take j,128<=c.toNat)/\m=Mth.val ((s.data.toList.drop i).take j)
theorem adI (i:Nat):ze s i 0 0:=⟨Aac,Aac,by simp[Mth.val]⟩
theorem xK (i j k:Nat) (hk:k=i+j) (hlt:k < s.size):(s.data.toList.drop i).take (j+1)=(s.data.toList.drop i).take j++[s[k]]:=by
 have h:=zX s i j k hk hlt;rw [aHW] at h;have e:k+1 - i=j+1:=Aaa
 rw [e] at h;exact h
theorem R6 (i j k m v:Nat) (hk:k=i+j) (hlt:k < s.size) (hu:qW j v) (h:ze s i j m):Mth.val ((s.data.toList.drop i).take (j+1))=m+s[k].toNat % 128*v:=by
 rw [xK s i j k hk hlt,Mth.val_snoc,h.1,<-h.2.2,ad7 hu]
theorem Zi (i j k m v:Nat) (hk:k=i+j) (hlt:k < s.size) (hu:qW j v) (hb:128<=s[k].toNat) (h:ze s i j m):ze s i (j+1) (m+s[k].toNat % 128*v):=by
 refine⟨?_,?_,(R6 s i j k m v hk hlt hu h).symm⟩
 .rw [xK s i j k hk hlt,aGp,h.1];rfl
 .intro c hc;rw [xK s i j k hk hlt,aGE] at hc;rcases hc with hc|hc
  .exact h.2.1 c hc
  .simp at hc;subst hc;exact hb
theorem afd (i j k m v:Nat) (hk:k=i+j) (hlt:k < s.size) (hu:qW j v) (hj:j < 5) (hb:¬128<=s[k].toNat) (h:ze s i j m) (hz:s[k].toNat≠0\/j=0):
 Mth.put (m+s[k].toNat*v)=(s.extract i (k+1)).toList:=by
 have e:m+s[k].toNat*v=Mth.val ((s.data.toList.drop i).take j++[s[k]]):=by
  exact ajA
 rw [e,zX s i j k hk hlt]
 exact Mth.putF_val _ _ Aaa 5 (by rw [h.1];omega) h.2.1 (by
  rcases hz with hz|hz
  .exact .inl hz
  .subst hz;exact .inr Aac)
theorem ald (i j k m v:Nat) (hk:k=i+j) (hlt:k < s.size) (hu:qW j v) (hj:j < 5) (h:ze s i j m) (hz:s[k].toNat=0) (hj0:0 < j):
 Mth.put (m+s[k].toNat*v)≠(s.extract i (k+1)).toList:=by
 have e:m+s[k].toNat*v=Mth.val ((s.data.toList.drop i).take j++[s[k]]):=by
  exact ajA
 rw [e,zX s i j k hk hlt];exact Mth.putF_nought _ _ hz (by intro hn;have:=h.1;rw [hn] at this;simp at this;omega) 5 (by rw [h.1];omega)
set_option maxHeartbeats 4000000
theorem Gz (i:Int) (w:World) (h:i < 0):Calls prog 102 #[.string s,.int .i64 i] w λe w'=>e= .returned (wG none i)/\w=w':=by
 have h0:decide (0<=i)=false:=Aag
 go_in
 go_wp2
 refine wp_loop_rounds 1 ?_;rw [rounds_succ];go_wp2
 go_ret2
 exact⟨rfl,rfl⟩
theorem X9 {a b:List UInt8} (h:a=b):(a == b)=true:=by simp[h]
theorem Kq {a b:List UInt8} (h:a≠b):(a == b)=false:=by simp[h]
theorem Vm (i:Nat) (w:World) (hs:s.size<=maxLen):Calls prog 102 #[.string s,.int .i64 i] w (dZ w (wG (Mth.get s.data.toList i) i)):=by
 unfold maxLen at hs;go_in
 go_wp2
 go_loop [6,7,8] (λn u a=>∃j m v k:Nat,qW j v/\m < v/\n= .int .i64 m/\u= .int .i64 v/\a= .int .i64 k/\k=i+j/\ze s i j m/\Mth.getF (5 - j) (s.data.toList.drop k) m v j=Mth.get s.data.toList i) (λ_ _ a=>s.size - (intOf a).toNat)
 case atStart=>exact⟨0,0,1,i,.inl ⟨rfl,rfl⟩,Aaa,rfl,rfl,rfl,rfl,adI s i,rfl⟩
 case round=>
  obtain⟨j,m,v,k,hu,hm,rfl,rfl,rfl,hk,hread,hget⟩:=hrel;have HG:=Hq hget;have HK:=Hq hk;have Sv:=Hq hread;have aFy:(k:Int) - (i:Int)<=j:=Aaa
  have aFz:(j:Int)<=(k:Int) - (i:Int):=Aaa
  clear hget hk hread;obtain⟨hv1,hv2,hu2,hv5⟩:=Xv hu;have HU0:=Hq hu;by_cases hlt:k < s.size
  .by_cases hj:j < 5
   .open as0 in exact agM
   .obtain⟨rfl,aAv⟩:=hv5 hj;have HR:=Hq (Mth.get_full _ _ _ _ HG);exact ajE
  .have HR:=Hq (Mth.get_end s k _ m _ _ hlt HG);exact ajE
set_option maxHeartbeats 400000
def rP (s:ByteArray):ByteArray:=⟨(Mth.put s.size++s.data.toList).toArray⟩
theorem ae5:(⟨(Mth.put s.size).toArray⟩:ByteArray)++s=rP s:=by
 apply aHE
 simp[rP]
theorem CQ (w:World) (h:1000 < s.size):
 Calls prog 143 #[.string s] w λe w'=>e= .returned (.string ByteArray.empty)/\w=w':=by
 go_in
 go_wp2
 go_ret;exact⟨rfl,rfl⟩
theorem Ry (w:World) (h:s.size<=1000):
 Calls prog 143 #[.string s] w (dZ w (.string (rP s))):=by
 have hl:=Mth.put_length s.size;have hadd:=λw1=>aHq (P:=prog) w1 ⟨(Mth.put s.size).toArray⟩ s (by rw [size_of_list];omega)
 simp only[ae5] at hadd;go_in
 go_wp2_with (go_at_call 139;refine(GU s.size _ Aaa).mono ?_;rintro e w' ⟨rfl,hbel⟩)
 go_ret;exact⟨rfl,by assumption⟩
def mP (n:Int):ByteArray:=if 0<=n/\n<=4000000000 then⟨(Mth.put n.toNat).toArray⟩ else ByteArray.empty
theorem lT (n:Int) (w:World):Calls prog 139 #[.int .i64 n] w (dZ w (.string (mP n))):=by
 unfold mP;by_cases h:0<=n/\n<=4000000000
 .rw [aGC h];exact wT n w h.1 h.2
 .rw [aGr h];exact(vP n w Aaa).mono λe w' ⟨he,hw⟩=>⟨he,hw▸aGs _ _⟩
def oF (s:ByteArray):ByteArray:=if s.size<=1000 then rP s else ByteArray.empty
theorem wU (w:World):Calls prog 143 #[.string s] w (dZ w (.string (oF s))):=by
 unfold oF;by_cases h:s.size<=1000
 .rw [aGC h];exact Ry s w h
 .rw [aGr h];exact(CQ s w Aaa).mono λe w' ⟨he,hw⟩=>⟨he,hw▸aGs _ _⟩
theorem nQ (n:Int):(mP n).size<=6:=by
 unfold mP;split
 .rw [size_of_list];exact Mth.put_length _
 .decide
theorem CF (x:ByteArray):(oF x).size<=1006:=by
 unfold oF;split
 .unfold rP;rw [size_of_list,aGp,aW];have:=Mth.put_length x.size;omega
 .decide
end Go.Proofs.YtohmklmkjmlpjaaGreatDoor
