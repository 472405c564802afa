/- Parts. -/
import Derived.Test.YtbolgdleijjgfaaGreatDoorRs13
namespace Go.Proofs.YtbolgdleijjgfaaGreatDoor
open Go.Proofs.Tryz
set_option maxHeartbeats 4000000
open Go.RowKit Go.Maps
open Mth
variable (a:Option Addr) (cap:Nat) (l:List Pu) (key:ByteArray) (n:Int) (E:Nat->Addr) (w:World) {dm df ds:Int} {p q:Pu}
namespace Mth
def dw (l:List Pu) (key:ByteArray) (dm df ds n:Int):List Pu×Bool:=rR l (eX (aD l key) dm df ds n) n
theorem aln {l:List Pu} (hp:l.Pairwise Og) (p:Pu):∀q∈iY l p,upd (aD l) p q.k=q:=by
 intro q hq;obtain⟨i,hi,rfl⟩:=aFY.1 hq;have h:=afL hp p;have h2:=congrArg (λx=>x[i]?) h;simp only[List.getElem?_map,aEQ hi,Option.map_some,aGc] at h2;exact h2
theorem put_mem {l:List Pu} (h:q∈iY l p):q=p\/q∈l:=by
 exact ahL
theorem JR {l:List Pu} {key:ByteArray} {n:Int} (h:jm l=false):dw l key dm df ds n=(l,false):=by
 unfold dw rR;rw [h];rfl
theorem Lu {l:List Pu} {key:ByteArray} {n:Int} (h:¬(1<=n/\n<=1000000000)):dw l key dm df ds n=(l,false):=by
 unfold dw rR;rw [aEN h];simp
theorem Ls {l:List Pu} {key:ByteArray} {n:Int} (h:jm l=true) (hn:1<=n/\n<=1000000000):
 dw l key dm df ds n=if iB (eX (aD l key) dm df ds n)&&decide ((iY l (eX (aD l key) dm df ds n)).length<=20) then(iY l (eX (aD l key) dm df ds n),true) else(l,false):=by
 unfold dw rR;rw [adg _ h,h,aEO hn];rfl
theorem Zv {l:List Pu} {key:ByteArray} {n:Int} (h:keyOk key.data.toList=false):iB (eX (aD l key) dm df ds n)=false:=by
 unfold iB;have:(eX (aD l key) dm df ds n).k=key:=qp l key;rw [this,h];rfl
theorem zh {l:List Pu} {key:ByteArray} (h:jm l=true) (hk:keyOk key.data.toList=true):iB (aD l key)=true:=by
 obtain⟨h1,_,_⟩:=(jW l).1 h;unfold aD;cases hf:l.find? (λp=>p.k.toList == key.toList) with
 |none=>simp[iB,rA,hk]
 |some q=>exact h1 q (List.mem_of_find?_eq_some hf)
theorem uj {d n:Int} (hd:d= -1\/d=0\/d=1) (hn:1<=n/\n<=1000000000): -1000000000<=d*n/\d*n<=1000000000:=by
 rcases hd with rfl|rfl|rfl<;>omega
end Mth
set_option maxRecDepth 100000
theorem Yz (a:Option Addr) (cap:Nat) (l:List Pu) (key:ByteArray) (dm df ds n:Int) (E:Nat->Addr) (w:World) (hl:l.length<=1048576) (hks:∀p∈l,p.k.size<=1048576) (hkey:key.size<=1048576) (hd1:dm= -1\/dm=0\/dm=1) (hd2:df= -1\/df=0\/df=1) (hd3:ds= -1\/ds=0\/ds=1) (ha:aG w a l) (he:gY w E):
 Calls Tryz.prog 273 #[.slice a l.length cap,.string key,.int .i64 n,shv dm df ds] w λe w'=>aH w w'/\
  (((dw l key dm df ds n).2=false/\∃i,(1<=i/\i < 6)/\e= .returned (.tuple #[.slice none 0 0,uJ (E i)]))\/
   ((dw l key dm df ds n).2=true/\∃g,w.heap.size<=g/\e= .returned (.tuple #[.slice (some ⟨g,0,none⟩) (dw l key dm df ds n).1.length (dw l key dm df ds n).1.length,.nilIface])/\tC w' g (dw l key dm df ds n).1)):=by
 have hb0:=dP w (.cells #[.int .i64 dm,.int .i64 df,.int .i64 ds] 261);cases hok:jm l
 .have mP:=Hq (Mq a cap l E _ Aaa (GR.At.below ha hb0) (he.below hb0) hok);have HAD:=Hq (JR (key:=key) (dm:=dm) (df:=df) (ds:=ds) (n:=n) hok);clear ha he hks hok hb0 hd1 hd2 hd3;go_in
  go_wp2_with fail;refine mP.mono ?_;rintro e w1 ⟨rfl,hb1⟩;have HB1:=Hq (Fo.one_block hb1).2.2;clear hb1;go_wp2_with fail;go_ret2
  exact⟨HB1,.inl ⟨by rw [ah HAD],_,Aaa,rfl⟩⟩
 have HOF:=Hq (IK a cap l _ (GR.At.below ha hb0) hks hok);have HE:=Hq he;cases hkk:keyOk key.data.toList
 .have HK:=Hq (λw1=>Ao key false w1 hkk)
  have HAD:Hid ((dw l key dm df ds n).2=false):=by
   by_cases hn:1<=n/\n<=1000000000
   .rw [Ls hok hn,Zv hkk];rfl
   .rw [Lu hn];exact Hq rfl
  open avf in exact ahb
 have HK:=Hq (λw1=>Ao key true w1 hkk);by_cases hn:1<=n/\n<=1000000000
 case' neg=>
  have HAD:=Hq (Lu (l:=l) (key:=key) (dm:=dm) (df:=df) (ds:=ds) hn)
  have Lf:=Hq (λw1=>aO n false w1 (aEN hn))
  open ave in exact ahb
 have Lf:=Hq (λw1=>aO n true w1 (aEO hn));have hpo:=zh (l:=l) (key:=key) hok hkk;have u1:=uj hd1 hn;have u2:=uj hd2 hn;have u3:=uj hd3 hn;obtain⟨_,hpw,aCo⟩:=(jW l).1 hok;have HAI:=Hq (Ls (key:=key) (dm:=dm) (df:=df) (ds:=ds) hok hn);have Sr:=Hq hks;cases hsp:iB (eX (aD l key) dm df ds n)
 .have HMV:=Hq (λB mp mb n0 v w1 (h:PM w1 B mp mb n0 v (l.map (·.k)) (aD l)) (he1:gY w1 E)=>Mr B mp mb n0 v l key dm df ds n E w1 hkey hpo u1 u2 u3 h he1 hsp)
  have HAD:Hid ((dw l key dm df ds n).2=false):=by
   rw [ah HAI,hsp];rfl
  clear ha he hks hok hb0 hd1 hd2 hd3 hkk hpo u1 u2 u3 hpw hsp HAI;open apN in exact awS
 .have HMV:=Hq (λB mp mb n0 v w1 (hB:B<=w1.heap.size) (hn0:n0 < maxLen) (h:PM w1 B mp mb n0 v (l.map (·.k)) (aD l)) (he1:gY w1 E)=>P5 B mp mb n0 v l key dm df ds n E w1 hB hkey hn0 aCo hpw hpo u1 u2 u3 h he1 hsp);have hkp:(eX (aD l key) dm df ds n).k=key:=qp l key
  have aaf:Hid (found l key=false->l.length=20->(dw l key dm df ds n).2=false):=by
   intro hf h20;have hlen:=wR (l:=l) (p:=eX (aD l key) dm df ds n) (by rw [hkp];exact hf);rw [ah HAI,hsp,aEN Aaa];rfl
  have aal:Hid ((found l key=true\/l.length < 20)->dw l key dm df ds n=(iY l (eX (aD l key) dm df ds n),true)/\(iY l (eX (aD l key) dm df ds n)).length<=20):=by
   intro hf
   have hlen:(iY l (eX (aD l key) dm df ds n)).length<=20:=by
    cases hff:found l key
    .have:=wR (l:=l) (p:=eX (aD l key) dm df ds n) (by rw [hkp];exact hff);rcases hf with hf|hf
     .rw [hff] at hf;cases hf
     .omega
    .have:=tF (l:=l) (p:=eX (aD l key) dm df ds n) (by rw [hkp];exact hff);omega
   rw [ah HAI,hsp,aEO hlen];exact⟨rfl,hlen⟩
  have Sc:Hid (∀q∈iY l (eX (aD l key) dm df ds n),q.k.size<=1048576):=by
   intro q hq;rcases put_mem hq with rfl|hq
   .rw [hkp];exact hkey
   .exact Sr q hq
  have EM:=Hq (aln hpw (eX (aD l key) dm df ds n));clear ha he hks hok hb0 hd1 hd2 hd3 hkk hpo u1 u2 u3 hpw hsp HAI hkp;generalize iY l (eX (aD l key) dm df ds n)=PL at *;generalize upd (aD l) (eX (aD l key) dm df ds n)=G2 at *;open apM in exact awS
theorem Mth.addP_no {l:List Pu} {key:ByteArray} {n:Int} (h:(dw l key dm df ds n).2=false):(dw l key dm df ds n).1=l:=by
 exact ai6
def jS (w:World) (r:List Pu×Bool) (e:Ending) (w':World):Prop:=∃a c g,w.heap.size<=g/\e= .returned (.tuple #[.slice a r.1.length c,.bool r.2])/\xV w' a g r.1/\aH w w'
theorem Ap (a:Option Addr) (cap:Nat) (l:List Pu) (key:ByteArray) (dm df ds n:Int) (E:Nat->Addr) (w:World) (hl:l.length<=1048576) (hks:∀p∈l,p.k.size<=1048576) (hkey:key.size<=1048576) (hd1:dm= -1\/dm=0\/dm=1) (hd2:df= -1\/df=0\/df=1) (hd3:ds= -1\/ds=0\/ds=1) (ha:aG w a l) (he:gY w E):
 Calls Tryz.prog 239 #[.slice a l.length cap,.string key,.int .i64 n,shv dm df ds] w (jS w (dw l key dm df ds n)):=by
 have hb0:=dP w (.cells #[.int .i64 dm,.int .i64 df,.int .i64 ds] 261);have HMV:=Hq (Yz a cap l key dm df ds n E _ hl hks hkey hd1 hd2 hd3 (GR.At.below ha hb0) (he.below hb0));have HE:=Hq he;have NY:=Hq (λw1 (hb:aH w w1)=>PV a cap l w1 hl hks (GR.At.below ha hb));have mP:=Hq (addP_no (l:=l) (key:=key) (dm:=dm) (df:=df) (ds:=ds) (n:=n));clear ha he hks hb0 hd1 hd2 hd3;generalize dw l key dm df ds n=r at *;obtain⟨L,bo⟩:=r;dsimp only at HMV mP;unfold jS;go_in
 go_wp2_with fail;refine HMV.mono ?_;rintro e w1 ⟨hb1,hcase⟩;have HB1:=Hq (Fo.one_block hb1).2.2;have HS:=Hq hb1.size;clear hb1 HMV;rcases hcase with⟨hno,i,hi,rfl⟩|⟨hyes,g,hg,rfl,hblk⟩
 .have hL:=ah mP hno;subst hno hL;have HIR:=Hq (MF (HE.below HB1) i hi);have HCX:=Hq (NY _ HB1);clear NY mP;go_wp2_with fail;refine HIR.mono ?_;rintro e w2 ⟨rfl,rfl⟩;go_wp2_with fail;refine HCX.mono ?_;rintro e w3 ⟨a3,c3,g3,hg3,rfl,hblk3,hb3⟩;have Sq:=Hq hblk3;have HB3:=Hq (HB1.trans (hb3.mono HB1.size));clear hblk3 hb3;go_wp2_with fail;go_ret2
  exact⟨_,_,g3,aEP HB1.size hg3,rfl,Sq,HB3⟩
 .subst hyes;have HIR:=Hq (I7 (HE.below HB1));have HK:=Hq hblk;have hge:w.heap.size<=g:=by have:=ah HS;simp at hg;omega
  clear NY mP hblk;go_wp2_with fail;refine HIR.mono ?_;rintro e w2 ⟨rfl,rfl⟩;go_wp2_with fail;go_ret2
  exact⟨_,_,g,hge,rfl,xV.of_blk HK,HB1⟩
theorem acp (hl:l.length<=1048576) (hks:∀p∈l,p.k.size<=1048576) (hkey:key.size<=1048576) (ha:aG w a l) (he:gY w E):
 Calls Tryz.prog 215 #[.slice a l.length cap,.string key,.int .i64 n] w (jS w (dw l key (1) (1) (0) n)):=by
 have H:=Hq (Ap a cap l key (1) (1) (0) n E w hl hks hkey Aaa Aaa Aaa ha he);clear ha he hks;generalize dw l key (1) (1) (0) n=r at *;unfold jS at *;go_in
 exact abp
theorem aci (hl:l.length<=1048576) (hks:∀p∈l,p.k.size<=1048576) (hkey:key.size<=1048576) (ha:aG w a l) (he:gY w E):
 Calls Tryz.prog 279 #[.slice a l.length cap,.string key,.int .i64 n] w (jS w (dw l key (0) (1) (0) n)):=by
 have H:=Hq (Ap a cap l key (0) (1) (0) n E w hl hks hkey Aaa Aaa Aaa ha he);clear ha he hks;generalize dw l key (0) (1) (0) n=r at *;unfold jS at *;go_in
 exact abp
theorem acr (hl:l.length<=1048576) (hks:∀p∈l,p.k.size<=1048576) (hkey:key.size<=1048576) (ha:aG w a l) (he:gY w E):
 Calls Tryz.prog 245 #[.slice a l.length cap,.string key,.int .i64 n] w (jS w (dw l key (0) (-1) (0) n)):=by
 have H:=Hq (Ap a cap l key (0) (-1) (0) n E w hl hks hkey Aaa Aaa Aaa ha he);clear ha he hks;generalize dw l key (0) (-1) (0) n=r at *;unfold jS at *;go_in
 exact abp
theorem YE (hl:l.length<=1048576) (hks:∀p∈l,p.k.size<=1048576) (hkey:key.size<=1048576) (ha:aG w a l) (he:gY w E):
 Calls Tryz.prog 217 #[.slice a l.length cap,.string key,.int .i64 n] w (jS w (dw l key (0) (-1) (1) n)):=by
 have H:=Hq (Ap a cap l key (0) (-1) (1) n E w hl hks hkey Aaa Aaa Aaa ha he);clear ha he hks;generalize dw l key (0) (-1) (1) n=r at *;unfold jS at *;go_in
 exact abp
theorem Qb (hl:l.length<=1048576) (hks:∀p∈l,p.k.size<=1048576) (hkey:key.size<=1048576) (ha:aG w a l) (he:gY w E):
 Calls Tryz.prog 219 #[.slice a l.length cap,.string key,.int .i64 n] w (jS w (dw l key (0) (1) (-1) n)):=by
 have H:=Hq (Ap a cap l key (0) (1) (-1) n E w hl hks hkey Aaa Aaa Aaa ha he);clear ha he hks;generalize dw l key (0) (1) (-1) n=r at *;unfold jS at *;go_in
 exact abp
open Go.RowKit
theorem Vl {w:World} {b off:Nat} {l:List Pu} (h:aG w (some ⟨b,off,none⟩) l) (k:Nat):aG w (some ⟨b,off+k*4,none⟩) (l.drop k):=λi hi=>by
 have hi':k+i < l.length:=Abt
 obtain⟨g,o,e,hg,hc⟩:=h (k+i) hi';injection e with e
 injection e with e1 e2
 subst e1 e2;refine⟨b,off+k*4,rfl,hg,λj hj=>?_⟩;have:=hc j hj;rw [show off+k*4+(i*4+j)=off+((k+i)*4+j) by omega,this];simp
theorem ad4 {w:World} {a:Option Addr} {l:List Pu} (h:aG w a l) (k:Nat):aG w a (l.take k):=λi hi=>by
 have hi':i < l.length:=Abt
 obtain⟨g,o,e,hg,hc⟩:=h i hi';refine⟨g,o,e,hg,λj hj=>?_⟩;rw [hc j hj];simp
theorem Vm {w:World} {a:Option Addr} {l:List Pu} (h:l=[]):aG w a l:=λi hi=>by rw [h] at hi;simp at hi
theorem Mth.tail_found {l:List Pu} {k:ByteArray} (h:found l k=true):place l k < l.length/\kV l k=l.drop (place l k+1):=by
 have hpl:=mh l k;by_cases hlt:place l k < l.length
 .refine⟨hlt,?_⟩;unfold found at h;unfold kV;rw [jG,aFy hlt] at h ⊢;dsimp only at h ⊢;rw [aE7 h]
 .unfold found at h;rw [jG,aF7 Aaa] at h;cases h
theorem Mth.tail_not {l:List Pu} {k:ByteArray} (h:found l k=false):kV l k=l.drop (place l k):=by
 unfold found at h;unfold kV;rw [jG] at h ⊢;cases hd:l.drop (place l k) with
 |nil=>rfl
 |cons q r=>
  rw [hd] at h;dsimp only at h ⊢;rw [h];rfl
theorem Mth.put_flat (l:List Pu) (p:Pu):GR.flat fu (l.take (place l p.k))++fu p++GR.flat fu (kV l p.k)=GR.flat fu (iY l p)/\place l p.k+1+(kV l p.k).length=(iY l p).length:=by
 have hpl:=mh l p.k;unfold iY;rw [head_take];constructor
 .rw [GR.flat_append,GR.flat_cons,aFr]
 .simp;omega
theorem Mth.put_mem' {l:List Pu} (h:q∈iY l p):q=p\/q∈l:=by
 exact ahL
theorem Mth.tail_len (l:List Pu) (k:ByteArray):(kV l k).length<=l.length:=by
 cases h:found l k
 .rw [tail_not h];simp
 .rw [(tail_found h).2];simp
theorem oZ {P:Program} (w:World) {ops:Array Oper} {o:Oper} {a:Act} {K:Act->World->Prop} {Q:Exit->Act->World->Prop} {E:Prop} (hgd:o.guard=none) (s x:Operand) (t:TypeId)
 (ho:o.op= .call {callee:= .builtin .append,args:=#[s,x],argTypes:=#[t,t]})
 (base:Nat) (e:TypeId) (i:TypeInfo) (z:Value) (size bytes:Nat) (ht:P.underlying t=some (.slice e)) (hi:P.info? e=some i) (hz:i.zero=some z)
 (hsize:i.size=size) (hby:i.bytes=bytes) (hzs:z.cells.size=size) (hsz:0 < size)
 (v:Value) (n:Nat) (xs:List Value) (hs:a.eval s=v) (hown:w.ownsRow base e size v n xs)
 (ad:Addr) (m c:Nat) (news:List Value) (hx:a.eval x= .slice (some ad) m c) (hl:news.length=m*size) (hnews:∀j u,news[j]?=some u->w.cell? (ad.add j)=some u) (h1:∀u∈news,u.oneCell'=true)
 (h63:n+m<=maxLen) (hbytes:(n+m)*bytes<=140737488355328) (hbase:base<=w.heap.size)
 (h:∀v' w',w'.ownsRow base e size v' (n+m) (xs++news)->w.grownBy w' v.ownBlock->(v'= .slice none 0 0↔v= .slice none 0 0/\m=0)->K (a.put o.dst v') w'):
 if Region.wanted o (yielded ops a.tmps)=true then Oper.wp P o a w K Q else E:=by
 exact ahH
theorem uN {w w':World} {B:Nat} {row:Option Nat} (hk:w.grownBy w' row) (hg:∀k,row=some k->B<=k) (hB:B<=w.heap.size):Below B w w':=⟨hk.os,hk.tape,hk.output,hk.size,λk hl=>hk.block k Aaa (λe=>by have:=hg k e.symm;omega)⟩
theorem JW (p:Pu):∀u∈fu p,u.oneCell'=true:=by
 intro u hu;simp only[fu,aE8,aFR,or_false] at hu;rcases hu with rfl|rfl|rfl|rfl<;>rfl
theorem ada (v:Value):v.ownBlock=none\/v.ownBlock≠none:=by
 exact ai0
theorem BU (w:World) (a b:Nat):(w.drewN a).drewN b=w.drewN (a+b):=by
 simp[World.drewN,aFp]
theorem Mth.place_at (l:List Pu) (key:ByteArray) (k:Nat) (hk:k<=l.length) (h1:∀q∈l.take k,Op.bytesLess q.k.toList key.toList=true) (h2:∀h:k < l.length,Op.bytesLess l[k].k.toList key.toList=false):place l key=k/\lM l key=l.drop k:=by
 obtain⟨e1,e2⟩:=adQ (λq=>Op.bytesLess q.k.toList key.toList) l k hk h1 h2;unfold place wI lM;rw [e1,e2];exact⟨Aah,rfl⟩
theorem Ul (b off:Nat) (cap:Nat) (l:List Pu) (p:Pu) (n:Int) (w:World) (hcap:l.length<=cap) (hk:∀p∈l,p.k.size<=maxLen) (hpk:p.k.size<=maxLen) (ha:aG w (some ⟨b,off,none⟩) l) (hok:jm l=true) (hn:1<=n/\n<=1000000000):
 Calls Tryz.prog 184 #[.slice (some ⟨b,off,none⟩) l.length cap,yc p,.int .i64 n] w λe w'=>∃v,e= .returned (.tuple #[v,.bool (rR l p n).2])/\v≠ .slice none 0 0/\w'.ownsRow w.heap.size 155 4 v (rR l p n).1.length (GR.flat fu (rR l p n).1)/\aH w w':=by
 have hl:l.length<=20:=((jW l).1 hok).2.2;have mW:=Hq (λw1 (h:aG w1 (some ⟨b,off,none⟩) l)=>pY (some ⟨b,off,none⟩) cap l w1 Aaa hk h);have HA:=Hq ha;have hn2:decide (yJ n 1 1000000000)=true:=aEO hn;have HW:=Hq (show rR l p n=if jm (iY l p) then(iY l p,true) else(l,false) by unfold rR;rw [hok,aEO hn];rfl);clear ha hn;obtain⟨pk,pm,pf,ps⟩:=p;go_in
 go_wp2_with fail;refine(mW _ (GR.At.below HA (dP w _))).mono ?_;rintro e w1 ⟨rfl,hb1⟩;have wu:=Hq (show w1.heap[w.heap.size]?=some (.cells (iR pk pm pf ps) 155 (0,0)) by rw [hb1.block w.heap.size Aac];exact aEK w _);have HB1:=Hq ((dP w _).trans (hb1.mono (dP w _).size))
 have hbw:b < w1.heap.size\/l.length=0:=by
  rcases Nat.eq_zero_or_pos l.length with h|h
  .exact .inr h
  .obtain⟨g,o,e,hg,_⟩:=ah HA 0 h;injection e with e
   injection e with e1 e2
   subst e1;exact .inl (aEU hg HB1.size)
 clear hb1;rw [hok];clear hok;go_wp2_with fail;refine(Uj _ _ _ _).mono ?_;rintro e w3 ⟨rfl,rfl⟩;rw [hn2];go_upto_block 0 with fail;go_cut [8] (λi wx=>i= .int .i64 (place l pk:Nat)/\∃q,wx=w1.drewN q)
 case first=>
  go_wp2_with fail;go_loopw [8] (λi wr=>∃k q:Nat,k<=l.length/\i= .int .i64 k/\(∀x∈l.take k,Op.bytesLess x.k.toList pk.toList=true)/\wr=w1.drewN q) (λi _=>l.length - (intOf i).toNat)
  case atStart=>exact⟨0,0,aE1 _,rfl,λx hx=>Aaz,rfl⟩
  case round=>
   obtain⟨k,q,hk1,rfl,hall,rfl⟩:=hrel;have jr:=Hq hall;clear hall;open asn in exact agE
 case rest=>
  obtain⟨rfl,q,rfl⟩:=hcut;have hpl:=mh l pk
  obtain⟨ad,hAd,hAe⟩:∃ad:Addr,(if cap=place l pk then some (⟨b,off,none⟩:Addr) else some ⟨b,off+place l pk*4,none⟩)=some ad/\(place l pk < l.length->ad=⟨b,off+place l pk*4,none⟩):=by
   by_cases h:cap=place l pk
   .rw [aE7 h];exact⟨_,rfl,λh2=>Aaa⟩
   .rw [aEX h];exact⟨_,rfl,λ_=>rfl⟩
  open asl in exact agE
def iV (w:World) (r:List Pu×Bool) (e:Ending) (w':World):Prop:=∃v,e= .returned (.tuple #[v,.bool r.2])/\v≠ .slice none 0 0/\w'.ownsRow w.heap.size 155 4 v r.1.length (GR.flat fu r.1)/\aH w w'
theorem Mth.purseOf_am {l:List Pu} {key:ByteArray} (h:jm l=true):(0<=(aD l key).m/\(aD l key).m<=1000000000)/\(0<=(aD l key).f/\(aD l key).f<=1000000000)/\(0<=(aD l key).s/\(aD l key).s<=1000000000):=by
 obtain⟨h1,_,_⟩:=(jW l).1 h;unfold aD;cases hf:l.find? (λp=>p.k.toList == key.toList) with
 |none=>simp
 |some q=>
  have hq:=h1 q (List.mem_of_find?_eq_some hf);unfold iB at hq;simp only[aES] at hq;exact⟨aE5 hq.1.1.1.2,aE5 hq.1.1.2,aE5 hq.1.2⟩
theorem FY (b off cap:Nat) (l:List Pu) (key:ByteArray) (dm df ds n:Int) (w:World) (hl:l.length<=1048600) (hcap:l.length<=cap) (hk:∀p∈l,p.k.size<=1048576) (hkey:key.size<=1048576) (hd1:dm= -1\/dm=0\/dm=1) (hd2:df= -1\/df=0\/df=1) (hd3:ds= -1\/ds=0\/ds=1) (ha:aG w (some ⟨b,off,none⟩) l):
 Calls Tryz.prog 153 #[.slice (some ⟨b,off,none⟩) l.length cap,.string key,.int .i64 dm,.int .i64 df,.int .i64 ds,.int .i64 n] w (iV w (dw l key dm df ds n)):=by
 have hkm:∀p∈l,p.k.size<=maxLen:=λp hp=>by have:=hk p hp;unfold maxLen;omega
 have JK:=Hq (wT (some ⟨b,off,none⟩) cap l key w hl ha);have HA:=Hq ha;unfold iV;by_cases hin:jm l=true/\1<=n/\n<=1000000000
 .obtain⟨hok,hn1,hn2⟩:=hin;obtain⟨⟨m0,m1⟩,⟨f0,f1⟩,s0,s1⟩:=purseOf_am (key:=key) hok;obtain⟨u10,u11⟩:=uj hd1 ⟨hn1,hn2⟩;obtain⟨u20,u21⟩:=uj hd2 ⟨hn1,hn2⟩;obtain⟨u30,u31⟩:=uj hd3 ⟨hn1,hn2⟩;have hpk:=qp l key;have HWI:=Hq (λw1 (hb:aH w w1)=>Ul b off cap l (eX (aD l key) dm df ds n) n w1 hcap hkm (by show(aD l key).k.size<=maxLen;rw [hpk];unfold maxLen;omega) (GR.At.below ha hb) hok ⟨hn1,hn2⟩);have hAm:decide (yJ n 0 1000000000)=true:=aEO ⟨Aaa,hn2⟩;unfold dw;clear ha hok hk hkm hd1 hd2 hd3;unfold eX at *;generalize aD l key=p at *;obtain⟨pk,pm,pf,ps⟩:=p;dsimp only at *;subst hpk;generalize rR l ⟨pk,pm+dm*n,pf+df*n,ps+ds*n⟩ n=r at *;go_in
  go_wp2_with fail;refine JK.mono ?_;rintro e w1 ⟨rfl,hb1⟩;have HB1:=Hq hb1;clear hb1 JK;go_wp2_with (go_at_call 91;refine(xH _ _).mono ?_;rintro e w2 ⟨rfl,rfl⟩;rw [hAm])
  refine(HWI _ (HB1.alloc HB1.size _)).mono ?_;rintro e w3 ⟨v,rfl,hv,hown,hb3⟩;have HB3:=Hq ((HB1.alloc HB1.size _).trans (hb3.mono (by have:=HB1.size;simp;omega)));have EF:=Hq (own_lower (b':=w.heap.size) hown (by have:=HB1.size;simp;omega));have HV:=Hq hv;clear hb3 hown hv;go_wp2_with fail;exact aET (v:= .tuple #[v,.bool r.2]) (by simp[results,Tryz.results153,go_sem]) rfl ⟨v,rfl,HV,EF,HB3⟩
 .have hno:jm l=false\/¬(1<=n/\n<=1000000000):=by
   cases h:jm l
   .exact .inl rfl
   .exact .inr (λhn=>hin ⟨h,hn⟩)
  have HAD:=Hq (show dw l key dm df ds n=(l,false) by
   rcases hno with h|h
   .exact JR h
   .exact Lu h)
  have HWN:=Hq (λp w1 (hb:aH w w1)=>Qm (some ⟨b,off,none⟩) cap l p n w1 hl hkm (λh=>Abb) (GR.At.below ha hb) hno);rw [ah HAD];clear ha hin hno hk hkm hd1 hd2 hd3 HAD;generalize aD l key=p at *;obtain⟨pk,pm,pf,ps⟩:=p;cases hAm:decide (yJ n 0 1000000000)
  all_goals
   go_in
   go_wp2_with fail
   refine JK.mono ?_
   rintro e w1 ⟨rfl,hb1⟩
   have HB1:=Hq hb1
   clear hb1 JK
   go_wp2_with (go_at_call 91;refine(xH _ _).mono ?_;rintro e w2 ⟨rfl,rfl⟩;rw [hAm])
   refine(HWN ⟨_,_,_,_⟩ _ (HB1.alloc HB1.size _)).mono ?_
   rintro e w3 ⟨v,rfl,hv,hown,hb3⟩
   have HB3:=Hq ((HB1.alloc HB1.size _).trans (hb3.mono (by have:=HB1.size;simp;omega)))
   have EF:=Hq (own_lower (b':=w.heap.size) hown (by have:=HB1.size;simp;omega))
   have HV:=Hq hv
   clear hb3 hown hv
   go_wp2_with fail
   exact aET (v:= .tuple #[v,.bool false]) (by simp[results,Tryz.results153,go_sem]) rfl ⟨v,rfl,HV,EF,HB3⟩
theorem GK (b off cap:Nat) (l:List Pu) (key:ByteArray) (n:Int) (w:World) (hl:l.length<=1048600) (hcap:l.length<=cap) (hk:∀p∈l,p.k.size<=1048576) (hkey:key.size<=1048576) (ha:aG w (some ⟨b,off,none⟩) l):
 Calls Tryz.prog 127 #[.slice (some ⟨b,off,none⟩) l.length cap,.string key,.int .i64 n] w (iV w (dw l key (1) (1) (0) n)):=by
 have H:=Hq (FY b off cap l key (1) (1) (0) n w hl hcap hk hkey Aaa Aaa Aaa ha);clear ha hk;generalize dw l key (1) (1) (0) n=r at *;unfold iV at *;go_in
 open aqp in exact aa5
theorem adv (b off cap:Nat) (l:List Pu) (key:ByteArray) (n:Int) (w:World) (hl:l.length<=1048600) (hcap:l.length<=cap) (hk:∀p∈l,p.k.size<=1048576) (hkey:key.size<=1048576) (ha:aG w (some ⟨b,off,none⟩) l):
 Calls Tryz.prog 186 #[.slice (some ⟨b,off,none⟩) l.length cap,.string key,.int .i64 n] w (iV w (dw l key (0) (1) (0) n)):=by
 have H:=Hq (FY b off cap l key (0) (1) (0) n w hl hcap hk hkey Aaa Aaa Aaa ha);clear ha hk;generalize dw l key (0) (1) (0) n=r at *;unfold iV at *;go_in
 open aqo in exact aa5
theorem adx (b off cap:Nat) (l:List Pu) (key:ByteArray) (n:Int) (w:World) (hl:l.length<=1048600) (hcap:l.length<=cap) (hk:∀p∈l,p.k.size<=1048576) (hkey:key.size<=1048576) (ha:aG w (some ⟨b,off,none⟩) l):
 Calls Tryz.prog 160 #[.slice (some ⟨b,off,none⟩) l.length cap,.string key,.int .i64 n] w (iV w (dw l key (0) (-1) (0) n)):=by
 have H:=Hq (FY b off cap l key (0) (-1) (0) n w hl hcap hk hkey Aaa Aaa Aaa ha);clear ha hk;generalize dw l key (0) (-1) (0) n=r at *;unfold iV at *;go_in
 open aqn in exact aa5
theorem ZC (b off cap:Nat) (l:List Pu) (key:ByteArray) (n:Int) (w:World) (hl:l.length<=1048600) (hcap:l.length<=cap) (hk:∀p∈l,p.k.size<=1048576) (hkey:key.size<=1048576) (ha:aG w (some ⟨b,off,none⟩) l):
 Calls Tryz.prog 155 #[.slice (some ⟨b,off,none⟩) l.length cap,.string key,.int .i64 n] w (iV w (dw l key (0) (-1) (1) n)):=by
 have H:=Hq (FY b off cap l key (0) (-1) (1) n w hl hcap hk hkey Aaa Aaa Aaa ha);clear ha hk;generalize dw l key (0) (-1) (1) n=r at *;unfold iV at *;go_in
 open aqm in exact aa5
theorem Rv (b off cap:Nat) (l:List Pu) (key:ByteArray) (n:Int) (w:World) (hl:l.length<=1048600) (hcap:l.length<=cap) (hk:∀p∈l,p.k.size<=1048576) (hkey:key.size<=1048576) (ha:aG w (some ⟨b,off,none⟩) l):
 Calls Tryz.prog 156 #[.slice (some ⟨b,off,none⟩) l.length cap,.string key,.int .i64 n] w (iV w (dw l key (0) (1) (-1) n)):=by
 have H:=Hq (FY b off cap l key (0) (1) (-1) n w hl hcap hk hkey Aaa Aaa Aaa ha);clear ha hk;generalize dw l key (0) (1) (-1) n=r at *;unfold iV at *;go_in
 open aql in exact aa5
end Go.Proofs.YtbolgdleijjgfaaGreatDoor
