/- Parts. -/
import Derived.Test.YtacgbldlonoaaaaGreatDoorRw1
namespace Go.Proofs.YtacgbldlonoaaaaGreatDoor
open Go.Proofs.Tryz
open Go.RowKit
open Mth
variable (x a b:Int) (w:World)
theorem qx (h1:a<=x) (h2:x<=b):Calls prog 63 #[.int .i64 x,.int .i64 a,.int .i64 b] w λe w'=>e= .returned (.bool true)/\w=w':=by
 exact aaI
theorem XG (h1:x < a):Calls prog 63 #[.int .i64 x,.int .i64 a,.int .i64 b] w λe w'=>e= .returned (.bool false)/\w=w':=by
 have h2:¬a<=x:=Aaa
 exact aaI
theorem TL (h1:a<=x) (h3:b < x):Calls prog 63 #[.int .i64 x,.int .i64 a,.int .i64 b] w λe w'=>e= .returned (.bool false)/\w=w':=by
 have h2:¬x<=b:=Aaa
 exact aaI
theorem sW (h:x < a\/b < x):Calls prog 63 #[.int .i64 x,.int .i64 a,.int .i64 b] w λe w'=>e= .returned (.bool false)/\w=w':=by
 by_cases h1:x < a
 .exact XG x a b w h1
 .exact TL x a b w Aaa Aaa
set_option maxHeartbeats 1000000
set_option maxRecDepth 100000
theorem Kr (s:ByteArray) (w:World) (hs:s.size<=maxLen):
 Calls prog 64 #[.string s] w λe w'=>e= .returned (.bool (Mth.keyOk s.data.toList))/\w=w':=by
 unfold maxLen at hs;go_in
 go_wp2
 go_loop [3] (λi=>∃k:Nat,k<=s.size/\i= .int .i64 k/\(s.data.toList.take k).all Mth.keyByte=true) (λi=>s.size - (intOf i).toNat)
 case atStart=>exact⟨0,Nat.zero_le _,rfl,rfl⟩
 case round=>
  obtain⟨k,hk,rfl,hall⟩:=hrel;have HA:=Hq hall;clear hall;by_cases hlt:k < s.size
  .open asD in exact afW
  .open avj in exact agK
theorem Kq (n:Int) (w:World) (h1:97<=n) (h2:n<=122):Calls prog 176 #[.int .u8 n] w λe w'=>e= .returned (.bool true)/\w=w':=by
 exact aaD
theorem QG (n:Int) (w:World) (h:n < 97\/122 < n):Calls prog 176 #[.int .u8 n] w λe w'=>e= .returned (.bool false)/\w=w':=by
 by_cases h1:97<=n
 .have h2:¬n<=122:=Aaa
  clear h;exact aaD
 .clear h;exact aaD
theorem JL (n:Int) (w:World) (h1:48<=n) (h2:n<=57):Calls prog 177 #[.int .u8 n] w λe w'=>e= .returned (.bool true)/\w=w':=by
 exact aaE
theorem OZ (n:Int) (w:World) (h:n < 48\/57 < n):Calls prog 177 #[.int .u8 n] w λe w'=>e= .returned (.bool false)/\w=w':=by
 by_cases h1:48<=n
 .have h2:¬n<=57:=Aaa
  clear h;exact aaE
 .clear h;exact aaE
set_option maxHeartbeats 1000000
theorem JU (s:ByteArray) (w:World):
 Calls prog 131 #[.string s] w λe w'=>e= .returned (.bool (Mth.keyOk s.data.toList))/\w=w':=by
 by_cases hlen:(1:Int)<=(s.size:Int)/\(s.size:Int)<=10
 .obtain⟨hs1,hs2⟩:=hlen;have hne:s.toList.isEmpty=false:=jT s Aaa;have h10:decide (10 < (s.size:Int))=false:=Aaf
  go_in
  go_wp2
  go_loop [13] (λi=>∃k:Nat,k<=s.size/\i= .int .i64 k/\(s.data.toList.take k).all Mth.keyByte=true) (λi=>s.size - (intOf i).toNat)
  case atStart=>exact⟨0,Nat.zero_le _,rfl,rfl⟩
  case round=>
   obtain⟨k,hk,rfl,hall⟩:=hrel;have HA:=Hq hall;clear hall;by_cases hlt:k < s.size
   .open asE in exact afW
   .open avk in exact agK
 .have HF:Hid (Mth.keyOk s.data.toList=false):=Mth.keyOk_len _ (by rw [aH];omega);by_cases h0:s.size=0
  .have he:s=ByteArray.empty:=eq_empty s h0;subst he;exact ahH
  .have hne:s.toList.isEmpty=false:=jT s Aaa;have h10:10 < (s.size:Int):=Aaa
   exact ahH
def wL (x a b:Int):Prop:=a<=x/\x<=b
instance (x a b:Int):Decidable (wL x a b):=by unfold wL;infer_instance
theorem Mh:Calls prog 63 #[.int .i64 x,.int .i64 a,.int .i64 b] w λe w'=>e= .returned (.bool (decide (wL x a b)))/\w=w':=by
 by_cases h:wL x a b
 .rw [decide_eq_true h];exact qx x a b w h.1 h.2
 .rw [decide_eq_false h];exact sW x a b w (by unfold wL at h;omega)
theorem sV (n:Int) (w:World):Calls prog 62 #[.int .i64 n] w λe w'=>e= .returned (.bool (decide (wL n 0 1000000000)))/\w=w':=by
 go_in
 go_wp2_with (go_at_call 63;refine(Mh _ _ _ _).mono ?_;rintro e w1 ⟨rfl,rfl⟩)
 go_ret;exact⟨rfl,rfl⟩
end Go.Proofs.YtacgbldlonoaaaaGreatDoor
namespace Go.Proofs.YtacgbldlonoaaaaGreatDoor.Mth
open Go.Proofs.Tryz
open Mth
variable (s:ByteArray) (k j m v:Nat) (G:Option (Nat×Nat))
def getF:Nat->List UInt8->Nat->Nat->Nat->Option (Nat×Nat)
 |0,_,_,_,_=>none
 |_+1,[],_,_,_=>none
 |f+1,b::r,n,u,j=>if 128<=b.toNat then getF f r (n+b.toNat % 128*u) (u*128) (j+1) else if 4000000000 < n+b.toNat*u\/(b.toNat=0/\0 < j) then none else some (n+b.toNat*u,j+1)
def get (l:List UInt8) (i:Nat):Option (Nat×Nat):=getF 5 (l.drop i) 0 1 0
theorem wO (f n u j:Nat) (b:UInt8) (r:List UInt8) (h:128<=b.toNat):getF (f+1) (b::r) n u j=getF f r (n+b.toNat % 128*u) (u*128) (j+1):=by simp[getF,h]
theorem vX (f n u j:Nat) (b:UInt8) (r:List UInt8) (h:¬128<=b.toNat) (h2:¬(4000000000 < n+b.toNat*u\/(b.toNat=0/\0 < j))):getF (f+1) (b::r) n u j=some (n+b.toNat*u,j+1):=by simp[getF,h,h2]
theorem Fp (f n u j:Nat) (b:UInt8) (r:List UInt8) (h:¬128<=b.toNat) (h2:4000000000 < n+b.toNat*u\/(b.toNat=0/\0 < j)):getF (f+1) (b::r) n u j=none:=by simp[getF,h,h2]
theorem abj (f n u j:Nat):getF f [] n u j=none:=by cases f<;>rfl
theorem drop_cons (s:ByteArray) (k:Nat) (h:k < s.size):s.data.toList.drop k=s[k]::s.data.toList.drop (k+1):=by
 rw [List.drop_eq_getElem_cons Abg];rfl
theorem Xa (s:ByteArray) (k:Nat) (h:¬k < s.size):s.data.toList.drop k=[]:=by
 apply List.drop_eq_nil_of_le
 simp only[Array.length_toList];show s.size<=k
 omega
theorem get_more (hlt:k < s.size) (hj:j < 5) (hb:128<=s[k].toNat) (h:getF (5 - j) (s.data.toList.drop k) m v j=G):
 getF (5 - (j+1)) (s.data.toList.drop (k+1)) (m+s[k].toNat % 128*v) (v*128) (j+1)=G:=by
 obtain⟨f,hf⟩:∃f,5 - j=f+1:=⟨5 - j - 1,Aaa⟩;rw [hf,drop_cons s k hlt,wO _ _ _ _ _ _ hb] at h;rw [<-h];congr 1;omega
theorem get_hit (hlt:k < s.size) (hj:j < 5) (hb:¬128<=s[k].toNat) (h2:m+s[k].toNat*v<=4000000000) (h3:s[k].toNat≠0\/j=0) (h:getF (5 - j) (s.data.toList.drop k) m v j=G):
 G=some (m+s[k].toNat*v,j+1):=by
 obtain⟨f,hf⟩:∃f,5 - j=f+1:=⟨5 - j - 1,Aaa⟩;rw [hf,drop_cons s k hlt,vX _ _ _ _ _ _ hb Aaa] at h;exact h.symm
theorem get_bad (hlt:k < s.size) (hj:j < 5) (hb:¬128<=s[k].toNat) (h2:4000000000 < m+s[k].toNat*v\/(s[k].toNat=0/\0 < j)) (h:getF (5 - j) (s.data.toList.drop k) m v j=G):
 G=none:=by
 obtain⟨f,hf⟩:∃f,5 - j=f+1:=⟨5 - j - 1,Aaa⟩;rw [hf,drop_cons s k hlt,Fp _ _ _ _ _ _ hb h2] at h;exact h.symm
theorem get_end (hlt:¬k < s.size) (h:getF (5 - j) (s.data.toList.drop k) m v j=G):G=none:=by
 rw [Xa s k hlt,abj] at h;exact h.symm
theorem get_full (l:List UInt8) (m v:Nat) (G:Option (Nat×Nat)) (h:getF (5 - 5) l m v 5=G):G=none:=by
 simp[getF] at h;exact h.symm
theorem Fq (f:Nat):∀(l:List UInt8) (n u j m c:Nat),getF f l n u j=some (m,c)->m<=4000000000/\j < c/\c<=j+f/\c - j<=l.length:=by
 induction f with
 |zero=>intro l n u j m c h;simp[getF] at h
 |succ f ih=>
  intro l n u j m c h
  cases l with
  |nil=>simp[getF] at h
  |cons b r=>
   by_cases hb:128<=b.toNat
   .rw [wO _ _ _ _ _ _ hb] at h;have:=ih _ _ _ _ _ _ h;simp;omega
   .by_cases hx:4000000000 < n+b.toNat*u\/(b.toNat=0/\0 < j)
    .rw [Fp _ _ _ _ _ _ hb hx] at h;cases h
    .rw [vX _ _ _ _ _ _ hb hx] at h;simp at h;simp;omega
theorem get_bound (l:List UInt8) (i m c:Nat) (h:get l i=some (m,c)):m<=4000000000/\0 < c/\c<=5/\i+c<=l.length:=by
 have:=Fq 5 _ _ _ _ _ _ h;simp at this;omega
def val:List UInt8->Nat
 |[]=>0
 |b::r=>b.toNat % 128+128*val r
theorem val_snoc (l:List UInt8) (b:UInt8):val (l++[b])=val l+b.toNat % 128*128 ^ l.length:=by
 induction l with
 |nil=>simp[val]
 |cons c r ih=>simp only[List.cons_append,val,ih,List.length_cons,Nat.pow_succ];rw [Nat.mul_add,Nat.add_assoc];congr 2;rw [Nat.mul_comm (128 ^ r.length) 128,Nat.mul_left_comm]
theorem aj9 (l:List UInt8):val l < 128 ^ l.length:=by
 induction l with
 |nil=>simp[val]
 |cons c r ih=>simp only[val,List.length_cons,Nat.pow_succ];have:=Nat.mod_lt c.toNat (show 0 < 128 by omega);omega
theorem ofNat_toNat (b:UInt8):UInt8.ofNat b.toNat=b:=Aac
theorem putF_val (cs:List UInt8) (b:UInt8) (hb:b.toNat < 128):∀(f:Nat),cs.length<=f->(∀c∈cs,128<=c.toNat)->(b.toNat≠0\/cs=[])->putF f (val (cs++[b]))=cs++[b]:=by
 induction cs with
 |nil=>
  intro f _ _ _
  have e:val ([]++[b])=b.toNat:=by simp[val];omega
  rw [e,jI _ _ Aaa,ofNat_toNat];rfl
 |cons c r ih=>
  intro f hf hc h0
  have h0':b.toNat≠0:=by simpa using h0
  cases f with
  |zero=>simp at hf
  |succ f=>
   have hcc:128<=c.toNat:=hc c Aac
   have hc2:=c.toNat_lt
   have hpos:0 < val (r++[b]):=by
    rw [val_snoc];have:0 < 128 ^ r.length:=Nat.pow_pos Aaa;have h1:b.toNat % 128=b.toNat:=Nat.mod_eq_of_lt hb;rw [h1];have:=Nat.mul_pos (Nat.pos_of_ne_zero h0') this;omega
   have e:val ((c::r)++[b])=c.toNat % 128+128*val (r++[b]):=rfl
   rw [e,og _ _ Aaa]
   have e1:(c.toNat % 128+128*val (r++[b])) % 128=c.toNat % 128:=Aaa
   have e2:(c.toNat % 128+128*val (r++[b])) / 128=val (r++[b]):=Aaa
   rw [e1,e2,ih f (by simpa using hf) (λx hx=>hc x Aax) (.inl h0')]
   have e3:128+c.toNat % 128=c.toNat:=Aaa
   rw [e3,ofNat_toNat];rfl
theorem XV (f:Nat):∀(n:Nat),n < 128 ^ (f+1)->0 < n->∃pre b,putF f n=pre++[b]/\b.toNat≠0:=by
 induction f with
 |zero=>intro n h1 h2;refine⟨[],UInt8.ofNat n,rfl,?_⟩;rw [toNat_byte _ (by simp at h1;omega)];omega
 |succ f ih=>
  intro n h1 h2
  by_cases h:n<=127
  .rw [jI _ _ h];refine⟨[],UInt8.ofNat n,rfl,?_⟩;rw [toNat_byte _ Aaa];omega
  .obtain⟨pre,b,e,hb⟩:=ih (n / 128) (by rw [Nat.div_lt_iff_lt_mul Aaa];rw [Nat.pow_succ] at h1;exact h1) Aaa;rw [og _ _ h,e];exact⟨_::pre,b,rfl,hb⟩
theorem putF_nought (cs:List UInt8) (b:UInt8) (h0:b.toNat=0) (hne:cs≠[]) (f:Nat) (hf:cs.length<=f):putF f (val (cs++[b]))≠cs++[b]:=by
 intro e
 have hv:val (cs++[b]) < 128 ^ (f+1):=by
  have h1:=aj9 (cs++[b]);have h2:128 ^ (cs++[b]).length<=128 ^ (f+1):=Nat.pow_le_pow_right Aaa (by simpa using hf);omega
 rcases Nat.eq_zero_or_pos (val (cs++[b])) with hz|hp
 .rw [hz,jI _ _ Aaa] at e;have:=congrArg List.length e;simp at this;exact hne this
 .obtain⟨pre,b',e',hb'⟩:=XV f _ hv hp;rw [e] at e';have:=List.append_inj_right' e' rfl;simp at this;subst this;exact hb' h0
end Go.Proofs.YtacgbldlonoaaaaGreatDoor.Mth
namespace Go.Proofs.YtacgbldlonoaaaaGreatDoor.Mth
open Go.Proofs.Tryz
theorem Li (f:Nat):∀(l pre:List UInt8) (n j m c:Nat),pre.length=j->j+f=5->(∀x∈pre,128<=x.toNat)->n=val pre->getF f l n (128 ^ j) j=some (m,c)->put m=pre++l.take (c - j):=by
 induction f with
 |zero=>intro l pre n j m c _ _ _ _ h;simp[getF] at h
 |succ f ih=>
  intro l pre n j m c hl hj hp hn h
  cases l with
  |nil=>simp[getF] at h
  |cons b r=>
   by_cases hb:128<=b.toNat
   .rw [wO _ _ _ _ _ _ hb] at h;have hc:=(Fq f _ _ _ _ _ _ h).2.1
    have:=ih r (pre++[b]) (n+b.toNat % 128*128 ^ j) (j+1) m c Aaf Aaa (by
     intro x hx
     rcases List.mem_append.1 hx with hx|hx
     .exact hp x hx
     .simp at hx;subst hx;exact hb) (by rw [val_snoc,hl,hn]) (by rw [Nat.pow_succ];exact h)
    rw [this];obtain⟨d,hd⟩:∃d,c - j=d+1:=⟨c - j - 1,Aaa⟩;have hd2:c - (j+1)=d:=Aaa
    rw [hd,hd2];simp
   .by_cases hx:4000000000 < n+b.toNat*128 ^ j\/(b.toNat=0/\0 < j)
    .rw [Fp _ _ _ _ _ _ hb hx] at h;cases h
    .rw [vX _ _ _ _ _ _ hb hx] at h;simp only[Option.some.injEq,Prod.mk.injEq] at h;obtain⟨h1,h2⟩:=h;have e:m=val (pre++[b]):=by rw [val_snoc,hl,<-hn,Nat.mod_eq_of_lt Aaa];exact h1.symm
     have e2:c - j=1:=Aaa
     rw [e,e2]
     have:=putF_val pre b Aaa 5 Aaa hp (by
      by_cases hz:b.toNat=0
      .right
       have:j=0:=Aaa
       exact List.length_eq_zero_iff.1 Aaa
      .exact .inl hz)
     unfold put;rw [this];simp
theorem get_was_put (l:List UInt8) (i m c:Nat) (h:get l i=some (m,c)):put m=(l.drop i).take c:=by
 have:=Li 5 (l.drop i) [] 0 0 m c rfl rfl Aac rfl (by rw [Nat.pow_zero];exact h);simpa using this
theorem abk (g:Nat):∀(v f n u j:Nat) (y:List UInt8),v < 128 ^ (g+1)->v < 128 ^ f->0 < f->(v≠0\/j=0)->n+v*u<=4000000000->getF f (putF g v++y) n u j=some (n+v*u,j+(putF g v).length):=by
 induction g with
 |zero=>
  intro v f n u j y hv _ hf hz hb
  obtain⟨f',rfl⟩:∃f',f=f'+1:=⟨f - 1,Aaa⟩
  have hv':v<=127:=by simp at hv;omega
  have e:(UInt8.ofNat v).toNat=v:=toNat_byte _ Aaa
  rw [jI _ _ hv',List.singleton_append,vX _ _ _ _ _ _ Aco Aco,e]
  simp
 |succ g ih=>
  intro v f n u j y hv hvf hf hz hb
  obtain⟨f',rfl⟩:∃f',f=f'+1:=⟨f - 1,Aaa⟩
  by_cases hs:v<=127
  .have e:(UInt8.ofNat v).toNat=v:=toNat_byte _ Aaa;rw [jI _ _ hs,List.singleton_append,vX _ _ _ _ _ _ Aco Aco,e];simp
  .have e:(UInt8.ofNat (128+v % 128)).toNat=128+v % 128:=toNat_byte _ Aaa;have hm:(128+v % 128) % 128=v % 128:=Aaa
   have hmul:v % 128*u+v / 128*(u*128)=v*u:=by
    have h1:v=128*(v / 128)+v % 128:=Aaa
    conv=>rhs;rw [h1]
    rw [Nat.add_mul,Nat.mul_comm u 128,<-Nat.mul_assoc,Nat.mul_comm (v / 128) 128];omega
   have hf':0 < f':=by
    rcases Nat.eq_zero_or_pos f' with h|h
    .subst h;simp at hvf;omega
    .exact h
   rw [og _ _ hs,List.cons_append,wO _ _ _ _ _ _ Aco,e,hm];rw [ih (v / 128) f' (n+v % 128*u) (u*128) (j+1) y (by rw [Nat.div_lt_iff_lt_mul Aaa];rw [Nat.pow_succ] at hv;exact hv) (by rw [Nat.div_lt_iff_lt_mul Aaa];rw [Nat.pow_succ] at hvf;exact hvf) hf' (.inl Aaa) Aaa];simp only[List.length_cons,Option.some.injEq,Prod.mk.injEq];omega
end Go.Proofs.YtacgbldlonoaaaaGreatDoor.Mth
namespace Go.Proofs.YtacgbldlonoaaaaGreatDoor
open Go.Proofs.Tryz
set_option maxHeartbeats 4000000
set_option maxRecDepth 100000
open Go.RowKit
open Mth
variable {G:Option (Nat×Nat)} {i:Int}
theorem yG (i:Int) (w:World):Calls prog 242 #[.int .i64 i] w λe w'=>e= .returned (.iface 279 (.agg #[.iface 281 (.agg #[.int .i64 i])]))/\w=w':=by
 go_in
 go_wp2
 go_ret;exact⟨rfl,rfl⟩
def rW (o:Option (Nat×Nat)) (i:Int):Value:=
 match o with
 |none=> .tuple #[.int .i64 0,.int .i64 0,.iface 279 (.agg #[.iface 281 (.agg #[.int .i64 i])])]
 |some (n,c)=> .tuple #[.int .i64 n,.int .i64 (i+c),.nilIface]
theorem XP (s:ByteArray) (i:Int) (w:World) (h:i < 0):Calls prog 241 #[.string s,.int .i64 i] w λe w'=>e= .returned (rW none i)/\w=w':=by
 go_in
 go_wp2_with (go_at_call 242;refine(yG _ _).mono ?_;rintro e w' ⟨rfl,rfl⟩)
 go_ret3
 exact⟨rfl,rfl⟩
def qV (j u:Nat):Prop:=(j=0/\u=1)\/(j=1/\u=128)\/(j=2/\u=16384)\/(j=3/\u=2097152)\/(j=4/\u=268435456)\/(j=5/\u=34359738368)
theorem Qz {a b:Int} {n c:Nat} (hG:G=some (n,c)) (ha:a=n) (hb:b=i+c):Ending.returned (.tuple #[.int .i64 a,.int .i64 b,.nilIface])= .returned (rW G i):=by
 subst hG;subst ha;subst hb;rfl
theorem acJ (hG:G=none):Ending.returned (.tuple #[.int .i64 0,.int .i64 0,.iface 279 (.agg #[.iface 281 (.agg #[.int .i64 i])])])= .returned (rW G i):=by
 subst hG;rfl
theorem VU {j u:Nat} (h:qV j u):1<=u/\(j < 5->u<=268435456)/\(j < 5->qV (j+1) (u*128))/\(¬j < 5->j=5/\4000000000 < u):=by
 unfold qV at *;rcases h with⟨rfl,rfl⟩|⟨rfl,rfl⟩|⟨rfl,rfl⟩|⟨rfl,rfl⟩|⟨rfl,rfl⟩|⟨rfl,rfl⟩<;>simp
theorem aeD (b v:Nat):0<=(b:Int) % 128*(v:Int)/\(b:Int) % 128*(v:Int)<=127*(v:Int):=by
 have h1:0<=(b:Int) % 128:=Aaa
 have h2:(b:Int) % 128<=127:=Aaa
 exact⟨Int.mul_nonneg h1 Aaa,Int.mul_le_mul_of_nonneg_right h2 Aaa⟩
theorem Mt (b v:Nat) (hb:¬128<=b):(b:Int) % 128*(v:Int)=((b*v:Nat):Int):=by
 rw [Int.emod_eq_of_lt Aaa Aaa];simp
theorem Qn (m b v:Nat) (hb:¬128<=b) (h:(4000000000:Int) < (m:Int)+(b:Int) % 128*(v:Int)):4000000000 < m+b*v:=by
 rw [Mt b v hb] at h;generalize b*v=x at *;omega
theorem yI (m b v:Nat) (hb:¬128<=b) (h:¬(4000000000:Int) < (m:Int)+(b:Int) % 128*(v:Int)):m+b*v<=4000000000:=by
 rw [Mt b v hb] at h;generalize b*v=x at *;omega
theorem J9 (m b v:Nat) (h:m < v):m+b % 128*v < v*128:=by
 have h1:b % 128<=127:=Aaa
 have h2:=Nat.mul_le_mul_right v h1;omega
theorem Qp (m b v:Nat) (hb:¬128<=b):(m:Int)+(b:Int) % 128*(v:Int)=((m+b*v:Nat):Int):=by
 rw [Mt b v hb];generalize b*v=x;omega
theorem Qo (m b v:Nat) (hb:(b:Int)<=0):(m:Int)=((m+b*v:Nat):Int):=by
 have:b=0:=Aaa
 subst this;simp
theorem ayv (s:ByteArray) (i:Nat) (w:World) (hs:s.size<=maxLen):Calls prog 241 #[.string s,.int .i64 i] w λe w'=>e= .returned (rW (Mth.get s.data.toList i) i)/\w=w':=by
 unfold maxLen at hs;have h0:decide ((i:Int) < 0)=false:=Aac
 go_in
 go_wp2
 go_loop [7,8,9] (λn u a=>∃j m v k:Nat,qV j v/\m < v/\n= .int .i64 m/\u= .int .i64 v/\a= .int .i64 k/\k=i+j/\Mth.getF (5 - j) (s.data.toList.drop k) m v j=Mth.get s.data.toList i) (λ_ _ a=>s.size - (intOf a).toNat)
 case atStart=>exact⟨0,0,1,i,.inl ⟨rfl,rfl⟩,Aaa,rfl,rfl,rfl,rfl,rfl⟩
 case round=>
  obtain⟨j,m,v,k,hu,hm,rfl,rfl,rfl,hk,hget⟩:=hrel;have HG:=Hq hget;have HK:=Hq hk;clear hget hk;obtain⟨hv1,hv2,hu2,hv5⟩:=VU hu;by_cases hlt:k < s.size
  .by_cases hj:j < 5
   .open aqO in exact afu
   .obtain⟨rfl,ax2⟩:=hv5 hj;have HR:=Hq (Mth.get_full _ _ _ _ HG);clear hv2 hu2 hv5 hu;exact adO
  .have HR:=Hq (Mth.get_end s k _ m _ _ hlt HG);clear hv2 hu2 hv5 hu;exact adO
end Go.Proofs.YtacgbldlonoaaaaGreatDoor
