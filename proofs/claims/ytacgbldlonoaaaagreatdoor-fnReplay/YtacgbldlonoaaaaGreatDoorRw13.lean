/- Parts. -/
import Derived.Test.YtacgbldlonoaaaaGreatDoorRw12
namespace Go.Proofs.YtacgbldlonoaaaaGreatDoor
open Go.Proofs.Tryz
set_option maxHeartbeats 4000000
set_option maxRecDepth 100000
open Go.RowKit
open Mth
variable (b off cap:Nat) (l:List Pu) (key:ByteArray) (n:Int) (w:World) {a:Option Addr} {k:ByteArray}
theorem qw (p:Pu) (b:Bool) (w:World) (h:gX p=b):Calls prog 129 #[Al p] w (fF w (.bool b)):=by
 rw [<-h];exact abO p w
theorem Qb (a b:ByteArray):Op.bytesLess b.toList a.toList= !sle a b:=by
 cases h:sle a b
 .exact(qM _ _).2 ((oH a b).1 h)
 .cases h2:Op.bytesLess b.toList a.toList
  .rfl
  .rw [(oH a b).2 ((qM _ _).1 h2)] at h;cases h
theorem uF (a:Option Addr) (cap:Nat) (l:List Pu) (w:World) (hl:l.length<=1048600) (ha:aI w a l):
 Calls prog 53 #[.slice a l.length cap] w (fF w (.bool (jo l))):=by
 by_cases h20:l.length<=20
 .have HA:=Hq ha;clear ha;have aBa:decide (20 < (l.length:Int))=false:=decide_eq_false Aaa;go_in
  go_wp2_with fail;go_loopw [10] (λi wr=>∃k:Nat,k<=l.length/\i= .int .i64 k/\(List.range k).all (kW l)=true/\aY w wr) (λi _=>l.length - (intOf i).toNat)
  case atStart=>exact aaO
  case round=>
   obtain⟨k,hk,rfl,hall,hbel⟩:=hrel;have gI:=Hq hbel;have mU:=Hq hall;clear hall hbel;by_cases hlt:k < l.length
   .open anh in exact aws
   .exact axD
 .have HF:=Hq (show jo l=false by unfold jo;simp[h20]);have aBa:decide (20 < (l.length:Int))=true:=decide_eq_true Aaa;clear ha;go_in
  go_wp2_with fail;go_ret;exact⟨aD HF.symm,Below.refl _ _⟩
theorem UD {w:World} {b off:Nat} {l:List Pu} (h:aI w (some ⟨b,off,none⟩) l) (k:Nat):aI w (some ⟨b,off+k*4,none⟩) (l.drop k):=λi hi=>by
 have hi':k+i < l.length:=Abt
 obtain⟨g,o,e,hg,hc⟩:=h (k+i) hi';injection e with e
 injection e with e1 e2
 subst e1 e2;refine⟨b,off+k*4,rfl,hg,λj hj=>?_⟩;have:=hc j hj;rw [show off+k*4+(i*4+j)=off+((k+i)*4+j) by omega,this];simp
theorem ada {w:World} {l:List Pu} (h:aI w a l) (k:Nat):aI w a (l.take k):=λi hi=>by
 have hi':i < l.length:=Abt
 obtain⟨g,o,e,hg,hc⟩:=h i hi';refine⟨g,o,e,hg,λj hj=>?_⟩;rw [hc j hj];simp
theorem UE {w:World} {l:List Pu} (h:l=[]):aI w a l:=λi hi=>by rw [h] at hi;simp at hi
theorem Mth.tail_found {l:List Pu} (h:found l k=true):place l k < l.length/\lu l k=l.drop (place l k+1):=by
 have hpl:=nG l k;by_cases hlt:place l k < l.length
 .refine⟨hlt,?_⟩;unfold found at h;unfold lu;rw [jS,List.drop_eq_getElem_cons hlt] at h ⊢;dsimp only at h ⊢;rw [if_pos h]
 .unfold found at h;rw [jS,List.drop_eq_nil_of_le Aaa] at h;cases h
theorem Mth.tail_not {l:List Pu} (h:found l k=false):lu l k=l.drop (place l k):=by
 unfold found at h;unfold lu;rw [jS] at h ⊢;cases hd:l.drop (place l k) with
 |nil=>rfl
 |cons q r=>
  rw [hd] at h
  dsimp only at h ⊢
  rw [h]
  rfl
theorem Mth.put_flat (l:List Pu) (p:Pu):GR.flat fH (l.take (place l p.k))++fH p++GR.flat fH (lu l p.k)=GR.flat fH (jq l p)/\place l p.k+1+(lu l p.k).length=(jq l p).length:=by
 have hpl:=nG l p.k;unfold jq;rw [head_take];constructor
 .rw [GR.flat_append,GR.flat_cons,List.append_assoc]
 .simp;omega
theorem Mth.put_mem' {l:List Pu} {p q:Pu} (h:q∈jq l p):q=p\/q∈l:=by
 exact axK
theorem Mth.tail_len (l:List Pu) (k:ByteArray):(lu l k).length<=l.length:=by
 cases h:found l k
 .rw [tail_not h];simp
 .rw [(tail_found h).2];simp
theorem jQ {P:Program} (w:World) {ops:Array Oper} {o:Oper} {a:Act} {K:Act->World->Prop} {Q:Exit->Act->World->Prop} {E:Prop} (hgd:o.guard=none) (s x:Operand) (t:TypeId)
 (ho:o.op= .call {callee:= .builtin .append,args:=#[s,x],argTypes:=#[t,t]})
 (base:Nat) (e:TypeId) (i:TypeInfo) (z:Value) (size bytes:Nat) (ht:P.underlying t=some (.slice e)) (hi:P.info? e=some i) (hz:i.zero=some z)
 (hsize:i.size=size) (hby:i.bytes=bytes) (hzs:z.cells.size=size) (hsz:0 < size)
 (v:Value) (n:Nat) (xs:List Value) (hs:a.eval s=v) (hown:w.ownsRow base e size v n xs)
 (ad:Addr) (m c:Nat) (news:List Value) (hx:a.eval x= .slice (some ad) m c) (hl:news.length=m*size) (hnews:∀j u,news[j]?=some u->w.cell? (ad.add j)=some u) (h1:∀u∈news,u.oneCell'=true)
 (h63:n+m<=maxLen) (hbytes:(n+m)*bytes<=140737488355328) (hbase:base<=w.heap.size)
 (h:∀v' w',w'.ownsRow base e size v' (n+m) (xs++news)->w.grownBy w' v.ownBlock->(v'= .slice none 0 0↔v= .slice none 0 0/\m=0)->K (a.put o.dst v') w'):
 if Region.wanted o (yielded ops a.tmps)=true then Oper.wp P o a w K Q else E:=by
 exact axF
theorem mZ {w w':World} {B:Nat} {row:Option Nat} (hk:w.grownBy w' row) (hg:∀k,row=some k->B<=k) (hB:B<=w.heap.size):Below B w w':=⟨hk.os,hk.tape,hk.output,hk.size,λk hl=>hk.block k Aaa (λe=>by have:=hg k e.symm;omega)⟩
theorem wM (p:Pu):∀u∈fH p,u.oneCell'=true:=by
 intro u hu;simp only[fH,List.mem_cons,List.not_mem_nil,or_false] at hu;rcases hu with rfl|rfl|rfl|rfl<;>rfl
theorem Ql (v:Value):v.ownBlock=none\/v.ownBlock≠none:=by
 exact ahS
theorem sH (w:World) (a b:Nat):(w.drewN a).drewN b=w.drewN (a+b):=by
 simp[World.drewN,Nat.add_assoc]
theorem Mth.place_at (l:List Pu) (key:ByteArray) (k:Nat) (hk:k<=l.length) (h1:∀q∈l.take k,Op.bytesLess q.k.toList key.toList=true) (h2:∀h:k < l.length,Op.bytesLess l[k].k.toList key.toList=false):place l key=k/\lK l key=l.drop k:=by
 obtain⟨e1,e2⟩:=ac1 (λq=>Op.bytesLess q.k.toList key.toList) l k hk h1 h2;unfold place sU lK;rw [e1,e2];exact⟨Aaf,rfl⟩
theorem TP (b off:Nat) (cap:Nat) (l:List Pu) (p:Pu) (n:Int) (w:World) (hcap:l.length<=cap) (hk:∀p∈l,p.k.size<=maxLen) (hpk:p.k.size<=maxLen) (ha:aI w (some ⟨b,off,none⟩) l) (hok:jo l=true) (hn:1<=n/\n<=1000000000):
 Calls prog 173 #[.slice (some ⟨b,off,none⟩) l.length cap,Al p,.int .i64 n] w λe w'=>∃v,e= .returned (.tuple #[v,.bool (rP l p n).2])/\v≠ .slice none 0 0/\w'.ownsRow w.heap.size 143 4 v (rP l p n).1.length (GR.flat fH (rP l p n).1)/\aY w w':=by
 have hl:l.length<=20:=((kJ l).1 hok).2.2;have lD:=Hq (λw1 (h:aI w1 (some ⟨b,off,none⟩) l)=>kZ (some ⟨b,off,none⟩) cap l w1 Aaa hk h);have HA:=Hq ha;have hn2:decide (wL n 1 1000000000)=true:=decide_eq_true hn;have HW:=Hq (show rP l p n=if jo (jq l p) then(jq l p,true) else(l,false) by unfold rP;rw [hok,decide_eq_true hn];rfl);clear ha hn;obtain⟨pk,pm,pf,ps⟩:=p;go_in
 go_wp2_with fail;refine(lD _ (GR.At.below HA (dU w _))).mono ?_;open atC in exact agf
def iY (w:World) (r:List Pu×Bool) (e:Ending) (w':World):Prop:=∃v,e= .returned (.tuple #[v,.bool r.2])/\v≠ .slice none 0 0/\w'.ownsRow w.heap.size 143 4 v r.1.length (GR.flat fH r.1)/\aY w w'
theorem Mth.purseOf_am {l:List Pu} {key:ByteArray} (h:jo l=true):(0<=(aG l key).m/\(aG l key).m<=1000000000)/\(0<=(aG l key).f/\(aG l key).f<=1000000000)/\(0<=(aG l key).s/\(aG l key).s<=1000000000):=by
 obtain⟨h1,_,_⟩:=(kJ l).1 h;unfold aG;cases hf:l.find? (λp=>p.k.toList == key.toList) with
 |none=>simp
 |some q=>
  have hq:=h1 q (List.mem_of_find?_eq_some hf)
  unfold gX at hq
  simp only[Bool.and_eq_true] at hq
  exact⟨of_decide_eq_true hq.1.1.1.2,of_decide_eq_true hq.1.1.2,of_decide_eq_true hq.1.2⟩
theorem FT (b off cap:Nat) (l:List Pu) (key:ByteArray) (dm df ds n:Int) (w:World) (hl:l.length<=1048600) (hcap:l.length<=cap) (hk:∀p∈l,p.k.size<=1048576) (hkey:key.size<=1048576) (hd1:dm= -1\/dm=0\/dm=1) (hd2:df= -1\/df=0\/df=1) (hd3:ds= -1\/ds=0\/ds=1) (ha:aI w (some ⟨b,off,none⟩) l):
 Calls prog 115 #[.slice (some ⟨b,off,none⟩) l.length cap,.string key,.int .i64 dm,.int .i64 df,.int .i64 ds,.int .i64 n] w (iY w (dJ l key dm df ds n)):=by
 have hkm:∀p∈l,p.k.size<=maxLen:=λp hp=>by have:=hk p hp;unfold maxLen;omega
 have Ej:=Hq (rM (some ⟨b,off,none⟩) cap l key w hl ha);have HA:=Hq ha;unfold iY;by_cases hin:jo l=true/\1<=n/\n<=1000000000
 .obtain⟨hok,hn1,hn2⟩:=hin;obtain⟨⟨m0,m1⟩,⟨f0,f1⟩,s0,s1⟩:=purseOf_am (key:=key) hok;obtain⟨u10,u11⟩:=tX hd1 ⟨hn1,hn2⟩;obtain⟨u20,u21⟩:=tX hd2 ⟨hn1,hn2⟩;obtain⟨u30,u31⟩:=tX hd3 ⟨hn1,hn2⟩;have hpk:=qy l key;have ZK:=Hq (λw1 (hb:aY w w1)=>TP b off cap l (eX (aG l key) dm df ds n) n w1 hcap hkm (by show(aG l key).k.size<=maxLen;rw [hpk];unfold maxLen;omega) (GR.At.below ha hb) hok ⟨hn1,hn2⟩);have hAm:decide (wL n 0 1000000000)=true:=decide_eq_true ⟨Aaa,hn2⟩;unfold dJ;clear ha hok hk hkm hd1 hd2 hd3;unfold eX at *;generalize aG l key=p at *;obtain⟨pk,pm,pf,ps⟩:=p;dsimp only at *;subst hpk;generalize rP l ⟨pk,pm+dm*n,pf+df*n,ps+ds*n⟩ n=r at *;go_in
  go_wp2_with fail;refine Ej.mono ?_;rintro e w1 ⟨rfl,hb1⟩;have HB1:=Hq hb1;clear hb1 Ej;go_wp2_with (go_at_call 62;refine(sV _ _).mono ?_;rintro e w2 ⟨rfl,rfl⟩;rw [hAm])
  refine(ZK _ (HB1.alloc HB1.size _)).mono ?_;rintro e w3 ⟨v,rfl,hv,hown,hb3⟩;have HB3:=Hq ((HB1.alloc HB1.size _).trans (hb3.mono (by have:=HB1.size;simp;omega)));have Ei:=Hq (own_lower (b':=w.heap.size) hown (by have:=HB1.size;simp;omega));have HV:=Hq hv;clear hb3 hown hv;go_wp2_with fail;exact bodyPost_ret (v:= .tuple #[v,.bool r.2]) Adu rfl ⟨v,rfl,HV,Ei,HB3⟩
 .have hno:jo l=false\/¬(1<=n/\n<=1000000000):=by
   cases h:jo l
   .exact .inl rfl
   .exact .inr (λhn=>hin ⟨h,hn⟩)
  have HAD:=Hq (show dJ l key dm df ds n=(l,false) by
   rcases hno with h|h
   .exact JI h
   .exact KY h)
  have HWN:=Hq (λp w1 (hb:aY w w1)=>Qa (some ⟨b,off,none⟩) cap l p n w1 hl hkm (λh=>Aar) (GR.At.below ha hb) hno);rw [ah HAD];clear ha hin hno hk hkm hd1 hd2 hd3 HAD;generalize aG l key=p at *;obtain⟨pk,pm,pf,ps⟩:=p;cases hAm:decide (wL n 0 1000000000)
  all_goals
   go_in
   go_wp2_with fail
   refine Ej.mono ?_
   rintro e w1 ⟨rfl,hb1⟩
   have HB1:=Hq hb1
   clear hb1 Ej
   go_wp2_with (go_at_call 62;refine(sV _ _).mono ?_;rintro e w2 ⟨rfl,rfl⟩;rw [hAm])
   refine(HWN ⟨_,_,_,_⟩ _ (HB1.alloc HB1.size _)).mono ?_
   rintro e w3 ⟨v,rfl,hv,hown,hb3⟩
   have HB3:=Hq ((HB1.alloc HB1.size _).trans (hb3.mono (by have:=HB1.size;simp;omega)))
   have Ei:=Hq (own_lower (b':=w.heap.size) hown (by have:=HB1.size;simp;omega))
   have HV:=Hq hv
   clear hb3 hown hv
   go_wp2_with fail
   exact bodyPost_ret (v:= .tuple #[v,.bool false]) Adu rfl ⟨v,rfl,HV,Ei,HB3⟩
theorem Gj (hl:l.length<=1048600) (hcap:l.length<=cap) (hk:∀p∈l,p.k.size<=1048576) (hkey:key.size<=1048576) (ha:aI w (some ⟨b,off,none⟩) l):
 Calls prog 38 #[.slice (some ⟨b,off,none⟩) l.length cap,.string key,.int .i64 n] w (iY w (dJ l key (1) (1) (0) n)):=by
 have H:=Hq (FT b off cap l key (1) (1) (0) n w hl hcap hk hkey Aaa Aaa Aaa ha);clear ha hk;generalize dJ l key (1) (1) (0) n=r at *;unfold iY at *;go_in
 open apL in exact OA
theorem acP (hl:l.length<=1048600) (hcap:l.length<=cap) (hk:∀p∈l,p.k.size<=1048576) (hkey:key.size<=1048576) (ha:aI w (some ⟨b,off,none⟩) l):
 Calls prog 98 #[.slice (some ⟨b,off,none⟩) l.length cap,.string key,.int .i64 n] w (iY w (dJ l key (0) (1) (0) n)):=by
 have H:=Hq (FT b off cap l key (0) (1) (0) n w hl hcap hk hkey Aaa Aaa Aaa ha);clear ha hk;generalize dJ l key (0) (1) (0) n=r at *;unfold iY at *;go_in
 open apK in exact OA
theorem QX (hl:l.length<=1048600) (hcap:l.length<=cap) (hk:∀p∈l,p.k.size<=1048576) (hkey:key.size<=1048576) (ha:aI w (some ⟨b,off,none⟩) l):
 Calls prog 121 #[.slice (some ⟨b,off,none⟩) l.length cap,.string key,.int .i64 n] w (iY w (dJ l key (0) (-1) (0) n)):=by
 have H:=Hq (FT b off cap l key (0) (-1) (0) n w hl hcap hk hkey Aaa Aaa Aaa ha);clear ha hk;generalize dJ l key (0) (-1) (0) n=r at *;unfold iY at *;go_in
 open apJ in exact OA
theorem Yx (hl:l.length<=1048600) (hcap:l.length<=cap) (hk:∀p∈l,p.k.size<=1048576) (hkey:key.size<=1048576) (ha:aI w (some ⟨b,off,none⟩) l):
 Calls prog 117 #[.slice (some ⟨b,off,none⟩) l.length cap,.string key,.int .i64 n] w (iY w (dJ l key (0) (-1) (1) n)):=by
 have H:=Hq (FT b off cap l key (0) (-1) (1) n w hl hcap hk hkey Aaa Aaa Aaa ha);clear ha hk;generalize dJ l key (0) (-1) (1) n=r at *;unfold iY at *;go_in
 open apI in exact OA
theorem Q6 (hl:l.length<=1048600) (hcap:l.length<=cap) (hk:∀p∈l,p.k.size<=1048576) (hkey:key.size<=1048576) (ha:aI w (some ⟨b,off,none⟩) l):
 Calls prog 118 #[.slice (some ⟨b,off,none⟩) l.length cap,.string key,.int .i64 n] w (iY w (dJ l key (0) (1) (-1) n)):=by
 have H:=Hq (FT b off cap l key (0) (1) (-1) n w hl hcap hk hkey Aaa Aaa Aaa ha);clear ha hk;generalize dJ l key (0) (1) (-1) n=r at *;unfold iY at *;go_in
 open apH in exact OA
end Go.Proofs.YtacgbldlonoaaaaGreatDoor
