/- Parts. -/
import Derived.Test.YtacgbldlonoaaaaGreatDoorRr16
namespace Go.Proofs.YtacgbldlonoaaaaGreatDoor
set_option maxHeartbeats 4000000
open Go.RowKit Go.Maps
open Mth
namespace Mth
def dx (l:List Pu) (key:ByteArray) (dm df ds n:Int):List Pu×Bool:=qj l (eD (aG l key) dm df ds n) n
theorem agr {l:List Pu} (hp:l.Pairwise JB) (p:Pu):∀q∈iP l p,upd (aG l) p q.k=q:=by
 intro q hq;obtain⟨i,hi,rfl⟩:=List.mem_iff_getElem.1 hq;have h:=abq hp p;have h2:=congrArg (λx=>x[i]?) h;simp only[List.getElem?_map,List.getElem?_eq_getElem hi,Option.map_some,Option.some.injEq] at h2;exact h2
theorem put_mem {l:List Pu} {p q:Pu} (h:q∈iP l p):q=p\/q∈l:=by
 exact asP
theorem GI {l:List Pu} {key:ByteArray} {dm df ds n:Int} (h:iW l=false):dx l key dm df ds n=(l,false):=by
 unfold dx qj;rw [h];rfl
theorem IZ {l:List Pu} {key:ByteArray} {dm df ds n:Int} (h:¬(1<=n/\n<=1000000000)):dx l key dm df ds n=(l,false):=by
 unfold dx qj;rw [decide_eq_false h];simp
theorem IY {l:List Pu} {key:ByteArray} {dm df ds n:Int} (h:iW l=true) (hn:1<=n/\n<=1000000000):
 dx l key dm df ds n=if gJ (eD (aG l key) dm df ds n)&&decide ((iP l (eD (aG l key) dm df ds n)).length<=20) then(iP l (eD (aG l key) dm df ds n),true) else(l,false):=by
 unfold dx qj;rw [Zk _ h,h,decide_eq_true hn];rfl
theorem UO {l:List Pu} {key:ByteArray} {dm df ds n:Int} (h:keyOk key.data.toList=false):gJ (eD (aG l key) dm df ds n)=false:=by
 unfold gJ;have:(eD (aG l key) dm df ds n).k=key:=oq l key;rw [this,h];rfl
theorem wP {l:List Pu} {key:ByteArray} (h:iW l=true) (hk:keyOk key.data.toList=true):gJ (aG l key)=true:=by
 obtain⟨h1,_,_⟩:=(jJ l).1 h;unfold aG;cases hf:l.find? (λp=>p.k.toList == key.toList) with
 |none=>simp[gJ,pz,hk]
 |some q=>exact h1 q (List.mem_of_find?_eq_some hf)
theorem rD {d n:Int} (hd:d= -1\/d=0\/d=1) (hn:1<=n/\n<=1000000000): -1000000000<=d*n/\d*n<=1000000000:=by
 rcases hd with rfl|rfl|rfl<;>omega
end Mth
set_option maxRecDepth 100000
open Go.RowKit
theorem QS {w:World} {b off:Nat} {l:List Pu} (h:aH w (some ⟨b,off,none⟩) l) (k:Nat):aH w (some ⟨b,off+k*4,none⟩) (l.drop k):=λi hi=>by
 have hi':k+i < l.length:=Abn
 obtain⟨g,o,e,hg,hc⟩:=h (k+i) hi';injection e with e
 injection e with e1 e2
 subst e1 e2;refine⟨b,off+k*4,rfl,hg,λj hj=>?_⟩;have:=hc j hj;rw [show off+k*4+(i*4+j)=off+((k+i)*4+j) by omega,this];simp
theorem aac {w:World} {a:Option Addr} {l:List Pu} (h:aH w a l) (k:Nat):aH w a (l.take k):=λi hi=>by
 have hi':i < l.length:=Abn
 obtain⟨g,o,e,hg,hc⟩:=h i hi';refine⟨g,o,e,hg,λj hj=>?_⟩;rw [hc j hj];simp
theorem QT {w:World} {a:Option Addr} {l:List Pu} (h:l=[]):aH w a l:=λi hi=>by rw [h] at hi;simp at hi
theorem Mth.tail_found {l:List Pu} {k:ByteArray} (h:found l k=true):place l k < l.length/\jY l k=l.drop (place l k+1):=by
 have hpl:=lG l k;by_cases hlt:place l k < l.length
 .refine⟨hlt,?_⟩;unfold found at h;unfold jY;rw [jh,List.drop_eq_getElem_cons hlt] at h ⊢;dsimp only at h ⊢;rw [if_pos h]
 .unfold found at h;rw [jh,List.drop_eq_nil_of_le Aaa] at h;cases h
theorem Mth.tail_not {l:List Pu} {k:ByteArray} (h:found l k=false):jY l k=l.drop (place l k):=by
 unfold found at h;unfold jY;rw [jh] at h ⊢;cases hd:l.drop (place l k) with
 |nil=>rfl
 |cons q r=>
  rw [hd] at h
  dsimp only at h ⊢
  rw [h]
  rfl
theorem Mth.put_flat (l:List Pu) (p:Pu):GR.flat fE (l.take (place l p.k))++fE p++GR.flat fE (jY l p.k)=GR.flat fE (iP l p)/\place l p.k+1+(jY l p.k).length=(iP l p).length:=by
 have hpl:=lG l p.k;unfold iP;rw [head_take];constructor
 .rw [GR.flat_append,GR.flat_cons,List.append_assoc]
 .simp;omega
theorem Mth.put_mem' {l:List Pu} {p q:Pu} (h:q∈iP l p):q=p\/q∈l:=by
 exact asP
theorem Mth.tail_len (l:List Pu) (k:ByteArray):(jY l k).length<=l.length:=by
 cases h:found l k
 .rw [tail_not h];simp
 .rw [(tail_found h).2];simp
theorem nL {P:Program} (w:World) {ops:Array Oper} {o:Oper} {a:Act} {K:Act->World->Prop} {Q:Exit->Act->World->Prop} {E:Prop} (hgd:o.guard=none) (s x:Operand) (t:TypeId)
 (ho:o.op= .call {callee:= .builtin .append,args:=#[s,x],argTypes:=#[t,t]})
 (base:Nat) (e:TypeId) (i:TypeInfo) (z:Value) (size bytes:Nat) (ht:P.underlying t=some (.slice e)) (hi:P.info? e=some i) (hz:i.zero=some z)
 (hsize:i.size=size) (hby:i.bytes=bytes) (hzs:z.cells.size=size) (hsz:0 < size)
 (v:Value) (n:Nat) (xs:List Value) (hs:a.eval s=v) (hown:w.ownsRow base e size v n xs)
 (ad:Addr) (m c:Nat) (news:List Value) (hx:a.eval x= .slice (some ad) m c) (hl:news.length=m*size) (hnews:∀j u,news[j]?=some u->w.cell? (ad.add j)=some u) (h1:∀u∈news,u.oneCell'=true)
 (h63:n+m<=maxLen) (hbytes:(n+m)*bytes<=140737488355328) (hbase:base<=w.heap.size)
 (h:∀v' w',w'.ownsRow base e size v' (n+m) (xs++news)->w.grownBy w' v.ownBlock->(v'= .slice none 0 0↔v= .slice none 0 0/\m=0)->K (a.put o.dst v') w'):
 if Region.wanted o (yielded ops a.tmps)=true then Oper.wp P o a w K Q else E:=by
 exact asN
theorem rQ {w w':World} {B:Nat} {row:Option Nat} (hk:w.grownBy w' row) (hg:∀k,row=some k->B<=k) (hB:B<=w.heap.size):Below B w w':=⟨hk.os,hk.tape,hk.output,hk.size,λk hl=>hk.block k Aaa (λe=>by have:=hg k e.symm;omega)⟩
theorem GL (p:Pu):∀u∈fE p,u.oneCell'=true:=by
 intro u hu;simp only[fE,List.mem_cons,List.not_mem_nil,or_false] at hu;rcases hu with rfl|rfl|rfl|rfl<;>rfl
theorem Zg (v:Value):v.ownBlock=none\/v.ownBlock≠none:=by
 exact aex
theorem uU (w:World) (a b:Nat):(w.drewN a).drewN b=w.drewN (a+b):=by
 simp[World.drewN,Nat.add_assoc]
theorem Mth.place_at (l:List Pu) (key:ByteArray) (k:Nat) (hk:k<=l.length) (h1:∀q∈l.take k,Op.bytesLess q.k.toList key.toList=true) (h2:∀h:k < l.length,Op.bytesLess l[k].k.toList key.toList=false):place l key=k/\kD l key=l.drop k:=by
 obtain⟨e1,e2⟩:=ZQ (λq=>Op.bytesLess q.k.toList key.toList) l k hk h1 h2;unfold place qJ kD;rw [e1,e2];exact⟨Aag,rfl⟩
theorem Ql (b off:Nat) (cap:Nat) (l:List Pu) (p:Pu) (n:Int) (w:World) (hcap:l.length<=cap) (hk:∀p∈l,p.k.size<=maxLen) (hpk:p.k.size<=maxLen) (ha:aH w (some ⟨b,off,none⟩) l) (hok:iW l=true) (hn:1<=n/\n<=1000000000):
 Calls Tryz.prog 173 #[.slice (some ⟨b,off,none⟩) l.length cap,zi p,.int .i64 n] w λe w'=>∃v,e= .returned (.tuple #[v,.bool (qj l p n).2])/\v≠ .slice none 0 0/\w'.ownsRow w.heap.size 143 4 v (qj l p n).1.length (GR.flat fE (qj l p n).1)/\aX w w':=by
 have hl:l.length<=20:=((jJ l).1 hok).2.2;have lS:=Hq (λw1 (h:aH w1 (some ⟨b,off,none⟩) l)=>nV (some ⟨b,off,none⟩) cap l w1 Aaa hk h);have HA:=Hq ha;have hn2:decide (vR n 1 1000000000)=true:=decide_eq_true hn;have HW:=Hq (show qj l p n=if iW (iP l p) then(iP l p,true) else(l,false) by unfold qj;rw [hok,decide_eq_true hn];rfl);clear ha hn;obtain⟨pk,pm,pf,ps⟩:=p;go_enter Tryz.func173,Tryz.ntmps173
 go_wp2_with fail;refine(lS _ (GR.At.below HA (dM w _))).mono ?_;rintro e w1 ⟨rfl,hb1⟩;have xD:=Hq (show w1.heap[w.heap.size]?=some (.cells (iL pk pm pf ps) 143 (0,0)) by rw [hb1.block w.heap.size Aac];exact heap_alloc_new w _);have HB1:=Hq ((dM w _).trans (hb1.mono (dM w _).size))
 have hbw:b < w1.heap.size\/l.length=0:=by
  rcases Nat.eq_zero_or_pos l.length with h|h
  .exact .inr h
  .obtain⟨g,o,e,hg,_⟩:=ah HA 0 h;injection e with e
   injection e with e1 e2
   subst e1;exact .inl (Nat.lt_of_lt_of_le hg HB1.size)
 clear hb1;rw [hok];clear hok;go_wp2_with fail;refine(Qj _ _ _ _).mono ?_;rintro e w3 ⟨rfl,rfl⟩;rw [hn2];go_upto_block 0 with fail;go_cut [8] (λi wx=>i= .int .i64 (place l pk:Nat)/\∃q,wx=w1.drewN q)
 case first=>
  go_wp2_with fail;go_loopw [8] (λi wr=>∃k q:Nat,k<=l.length/\i= .int .i64 k/\(∀x∈l.take k,Op.bytesLess x.k.toList pk.toList=true)/\wr=w1.drewN q) (λi _=>l.length - (intOf i).toNat)
  case atStart=>exact⟨0,0,Nat.zero_le _,rfl,λx hx=>by simp at hx,rfl⟩
  case round=>
   obtain⟨k,q,hk1,rfl,hall,rfl⟩:=hrel;have mV:=Hq hall;clear hall;open anf in exact acw
 case rest=>
  obtain⟨rfl,q,rfl⟩:=hcut;have hpl:=lG l pk
  obtain⟨ad,hAd,hAe⟩:∃ad:Addr,(if cap=place l pk then some (⟨b,off,none⟩:Addr) else some ⟨b,off+place l pk*4,none⟩)=some ad/\(place l pk < l.length->ad=⟨b,off+place l pk*4,none⟩):=by
   by_cases h:cap=place l pk
   .rw [if_pos h];exact⟨_,rfl,λh2=>Aaa⟩
   .rw [if_neg h];exact⟨_,rfl,λ_=>rfl⟩
  open ane in exact acw
def iH (w:World) (r:List Pu×Bool) (e:Ending) (w':World):Prop:=∃v,e= .returned (.tuple #[v,.bool r.2])/\v≠ .slice none 0 0/\w'.ownsRow w.heap.size 143 4 v r.1.length (GR.flat fE r.1)/\aX w w'
theorem Mth.purseOf_am {l:List Pu} {key:ByteArray} (h:iW l=true):(0<=(aG l key).m/\(aG l key).m<=1000000000)/\(0<=(aG l key).f/\(aG l key).f<=1000000000)/\(0<=(aG l key).s/\(aG l key).s<=1000000000):=by
 obtain⟨h1,_,_⟩:=(jJ l).1 h;unfold aG;cases hf:l.find? (λp=>p.k.toList == key.toList) with
 |none=>simp
 |some q=>
  have hq:=h1 q (List.mem_of_find?_eq_some hf)
  unfold gJ at hq
  simp only[Bool.and_eq_true] at hq
  exact⟨of_decide_eq_true hq.1.1.1.2,of_decide_eq_true hq.1.1.2,of_decide_eq_true hq.1.2⟩
theorem l03Add (b off cap:Nat) (l:List Pu) (key:ByteArray) (dm df ds n:Int) (w:World) (hl:l.length<=1048600) (hcap:l.length<=cap) (hk:∀p∈l,p.k.size<=1048576) (hkey:key.size<=1048576)
 (hd1:dm= -1\/dm=0\/dm=1) (hd2:df= -1\/df=0\/df=1) (hd3:ds= -1\/ds=0\/ds=1) (ha:aH w (some ⟨b,off,none⟩) l):
 Calls Tryz.prog 115 #[.slice (some ⟨b,off,none⟩) l.length cap,.string key,.int .i64 dm,.int .i64 df,.int .i64 ds,.int .i64 n] w (iH w (dx l key dm df ds n)):=by
 have hkm:∀p∈l,p.k.size<=maxLen:=λp hp=>by have:=hk p hp;unfold maxLen;omega
 have Gq:=Hq (uL (some ⟨b,off,none⟩) cap l key w hl ha);have HA:=Hq ha;unfold iH;by_cases hin:iW l=true/\1<=n/\n<=1000000000
 .obtain⟨hok,hn1,hn2⟩:=hin;obtain⟨⟨m0,m1⟩,⟨f0,f1⟩,s0,s1⟩:=purseOf_am (key:=key) hok;obtain⟨u10,u11⟩:=rD hd1 ⟨hn1,hn2⟩;obtain⟨u20,u21⟩:=rD hd2 ⟨hn1,hn2⟩;obtain⟨u30,u31⟩:=rD hd3 ⟨hn1,hn2⟩;have hpk:=oq l key;have HWI:=Hq (λw1 (hb:aX w w1)=>Ql b off cap l (eD (aG l key) dm df ds n) n w1 hcap hkm (by show(aG l key).k.size<=maxLen;rw [hpk];unfold maxLen;omega) (GR.At.below ha hb) hok ⟨hn1,hn2⟩);have hAm:decide (vR n 0 1000000000)=true:=decide_eq_true ⟨Aaa,hn2⟩;unfold dx;clear ha hok hk hkm hd1 hd2 hd3;unfold eD at *;generalize aG l key=p at *;obtain⟨pk,pm,pf,ps⟩:=p;dsimp only at *;subst hpk;generalize qj l ⟨pk,pm+dm*n,pf+df*n,ps+ds*n⟩ n=r at *;go_enter Tryz.func115,Tryz.ntmps115
  go_wp2_with fail;refine Gq.mono ?_;rintro e w1 ⟨rfl,hb1⟩;have HB1:=Hq hb1;clear hb1 Gq;go_wp2_with (go_at_call 62;refine(l01Amount _ _).mono ?_;rintro e w2 ⟨rfl,rfl⟩;rw [hAm])
  refine(HWI _ (HB1.alloc HB1.size _)).mono ?_;rintro e w3 ⟨v,rfl,hv,hown,hb3⟩;have HB3:=Hq ((HB1.alloc HB1.size _).trans (hb3.mono (by have:=HB1.size;simp;omega)));have Gj:=Hq (own_lower (b':=w.heap.size) hown (by have:=HB1.size;simp;omega));have HV:=Hq hv;clear hb3 hown hv;go_wp2_with fail;exact bodyPost_ret (v:= .tuple #[v,.bool r.2]) (by simp[results,Tryz.results115,go_sem]) rfl ⟨v,rfl,HV,Gj,HB3⟩
 .have hno:iW l=false\/¬(1<=n/\n<=1000000000):=by
   cases h:iW l
   .exact .inl rfl
   .exact .inr (λhn=>hin ⟨h,hn⟩)
  have HAD:=Hq (show dx l key dm df ds n=(l,false) by
   rcases hno with h|h
   .exact GI h
   .exact IZ h)
  have HWN:=Hq (λp w1 (hb:aX w w1)=>M9 (some ⟨b,off,none⟩) cap l p n w1 hl hkm (λh=>Aax) (GR.At.below ha hb) hno);rw [ah HAD];clear ha hin hno hk hkm hd1 hd2 hd3 HAD;generalize aG l key=p at *;obtain⟨pk,pm,pf,ps⟩:=p;cases hAm:decide (vR n 0 1000000000)
  all_goals
   go_enter Tryz.func115,Tryz.ntmps115
   go_wp2_with fail
   refine Gq.mono ?_
   rintro e w1 ⟨rfl,hb1⟩
   have HB1:=Hq hb1
   clear hb1 Gq
   go_wp2_with (go_at_call 62;refine(l01Amount _ _).mono ?_;rintro e w2 ⟨rfl,rfl⟩;rw [hAm])
   refine(HWN ⟨_,_,_,_⟩ _ (HB1.alloc HB1.size _)).mono ?_
   rintro e w3 ⟨v,rfl,hv,hown,hb3⟩
   have HB3:=Hq ((HB1.alloc HB1.size _).trans (hb3.mono (by have:=HB1.size;simp;omega)))
   have Gj:=Hq (own_lower (b':=w.heap.size) hown (by have:=HB1.size;simp;omega))
   have HV:=Hq hv
   clear hb3 hown hv
   go_wp2_with fail
   exact bodyPost_ret (v:= .tuple #[v,.bool false]) (by simp[results,Tryz.results115,go_sem]) rfl ⟨v,rfl,HV,Gj,HB3⟩
theorem Ed (b off cap:Nat) (l:List Pu) (key:ByteArray) (n:Int) (w:World) (hl:l.length<=1048600) (hcap:l.length<=cap) (hk:∀p∈l,p.k.size<=1048576) (hkey:key.size<=1048576) (ha:aH w (some ⟨b,off,none⟩) l):
 Calls Tryz.prog 38 #[.slice (some ⟨b,off,none⟩) l.length cap,.string key,.int .i64 n] w (iH w (dx l key (1) (1) (0) n)):=by
 have H:=Hq (l03Add b off cap l key (1) (1) (0) n w hl hcap hk hkey Aaa Aaa Aaa ha);clear ha hk;generalize dx l key (1) (1) (0) n=r at *;unfold iH at *;go_enter Tryz.func38,Tryz.ntmps38
 open alp in exact Xh
theorem Zy (b off cap:Nat) (l:List Pu) (key:ByteArray) (n:Int) (w:World) (hl:l.length<=1048600) (hcap:l.length<=cap) (hk:∀p∈l,p.k.size<=1048576) (hkey:key.size<=1048576) (ha:aH w (some ⟨b,off,none⟩) l):
 Calls Tryz.prog 98 #[.slice (some ⟨b,off,none⟩) l.length cap,.string key,.int .i64 n] w (iH w (dx l key (0) (1) (0) n)):=by
 have H:=Hq (l03Add b off cap l key (0) (1) (0) n w hl hcap hk hkey Aaa Aaa Aaa ha);clear ha hk;generalize dx l key (0) (1) (0) n=r at *;unfold iH at *;go_enter Tryz.func98,Tryz.ntmps98
 open alo in exact Xh
theorem Ou (b off cap:Nat) (l:List Pu) (key:ByteArray) (n:Int) (w:World) (hl:l.length<=1048600) (hcap:l.length<=cap) (hk:∀p∈l,p.k.size<=1048576) (hkey:key.size<=1048576) (ha:aH w (some ⟨b,off,none⟩) l):
 Calls Tryz.prog 121 #[.slice (some ⟨b,off,none⟩) l.length cap,.string key,.int .i64 n] w (iH w (dx l key (0) (-1) (0) n)):=by
 have H:=Hq (l03Add b off cap l key (0) (-1) (0) n w hl hcap hk hkey Aaa Aaa Aaa ha);clear ha hk;generalize dx l key (0) (-1) (0) n=r at *;unfold iH at *;go_enter Tryz.func121,Tryz.ntmps121
 open aln in exact Xh
theorem UZ (b off cap:Nat) (l:List Pu) (key:ByteArray) (n:Int) (w:World) (hl:l.length<=1048600) (hcap:l.length<=cap) (hk:∀p∈l,p.k.size<=1048576) (hkey:key.size<=1048576) (ha:aH w (some ⟨b,off,none⟩) l):
 Calls Tryz.prog 117 #[.slice (some ⟨b,off,none⟩) l.length cap,.string key,.int .i64 n] w (iH w (dx l key (0) (-1) (1) n)):=by
 have H:=Hq (l03Add b off cap l key (0) (-1) (1) n w hl hcap hk hkey Aaa Aaa Aaa ha);clear ha hk;generalize dx l key (0) (-1) (1) n=r at *;unfold iH at *;go_enter Tryz.func117,Tryz.ntmps117
 open alm in exact Xh
theorem OC (b off cap:Nat) (l:List Pu) (key:ByteArray) (n:Int) (w:World) (hl:l.length<=1048600) (hcap:l.length<=cap) (hk:∀p∈l,p.k.size<=1048576) (hkey:key.size<=1048576) (ha:aH w (some ⟨b,off,none⟩) l):
 Calls Tryz.prog 118 #[.slice (some ⟨b,off,none⟩) l.length cap,.string key,.int .i64 n] w (iH w (dx l key (0) (1) (-1) n)):=by
 have H:=Hq (l03Add b off cap l key (0) (1) (-1) n w hl hcap hk hkey Aaa Aaa Aaa ha);clear ha hk;generalize dx l key (0) (1) (-1) n=r at *;unfold iH at *;go_enter Tryz.func118,Tryz.ntmps118
 open alk in exact Xh
end Go.Proofs.YtacgbldlonoaaaaGreatDoor
