/- Parts. -/
import Derived.Test.YtacgbldlonoaaaaGreatDoorRa29
namespace Go.Proofs.YtacgbldlonoaaaaGreatDoor
set_option maxHeartbeats 4000000
set_option maxRecDepth 100000
open Go.RowKit
open Mth
theorem KY {w:World} {b off:Nat} {l:List Pu} (h:aH w (some ⟨b,off,none⟩) l) (k:Nat):aH w (some ⟨b,off+k*4,none⟩) (l.drop k):=fun i hi=>by
 have hi':k+i < l.length:=by simp at hi;omega
 obtain⟨g,o,e,hg,hc⟩:=h (k+i) hi';injection e with e
 injection e with e1 e2
 subst e1 e2;refine⟨b,off+k*4,rfl,hg,fun j hj=>?_⟩;have:=hc j hj;rw [show off+k*4+(i*4+j)=off+((k+i)*4+j) by omega,this];simp
theorem Uh {w:World} {a:Option Addr} {l:List Pu} (h:aH w a l) (k:Nat):aH w a (l.take k):=fun i hi=>by
 have hi':i < l.length:=by simp at hi;omega
 obtain⟨g,o,e,hg,hc⟩:=h i hi';refine⟨g,o,e,hg,fun j hj=>?_⟩;rw [hc j hj];simp
theorem K7 {w:World} {a:Option Addr} {l:List Pu} (h:l=[]):aH w a l:=fun i hi=>by rw [h] at hi;simp at hi
theorem Mth.tail_found {l:List Pu} {k:ByteArray} (h:found l k=true):place l k < l.length∧jf l k=l.drop (place l k+1):=by
 have hpl:=jP l k;by_cases hlt:place l k < l.length
 ·refine⟨hlt,?_⟩;unfold found at h;unfold jf;rw [iH,List.drop_eq_getElem_cons hlt] at h ⊢;dsimp only at h ⊢;rw [if_pos h]
 ·unfold found at h;rw [iH,List.drop_eq_nil_of_le (by omega)] at h;cases h
theorem Mth.tail_not {l:List Pu} {k:ByteArray} (h:found l k=false):jf l k=l.drop (place l k):=by
 unfold found at h;unfold jf;rw [iH] at h ⊢;cases hd:l.drop (place l k) with
 |nil=>rfl
 |cons q r=>
  rw [hd] at h
  dsimp only at h ⊢
  rw [h]
  rfl
theorem Mth.put_flat (l:List Pu) (p:Pu):GR.flat eG (l.take (place l p.k))++eG p++GR.flat eG (jf l p.k)=GR.flat eG (gV l p)∧place l p.k+1+(jf l p.k).length=(gV l p).length:=by
 have hpl:=jP l p.k;unfold gV;rw [head_take];constructor
 ·rw [GR.flat_append,GR.flat_cons,List.append_assoc]
 ·simp;omega
theorem Mth.put_mem' {l:List Pu} {p q:Pu} (h:q∈gV l p):q=p∨q∈l:=by
 exact am7
theorem Mth.tail_len (l:List Pu) (k:ByteArray):(jf l k).length≤l.length:=by
 cases h:found l k
 ·rw [tail_not h];simp
 ·rw [(tail_found h).2];simp
theorem lI {P:Program} (w:World) {ops:Array Oper} {o:Oper} {a:Act} {K:Act→World→Prop} {Q:Exit→Act→World→Prop} {E:Prop} (hgd:o.guard=none) (s x:Operand) (t:TypeId)
 (ho:o.op= .call {callee:= .builtin .append,args:=#[s,x],argTypes:=#[t,t]})
 (base:Nat) (e:TypeId) (i:TypeInfo) (z:Value) (size bytes:Nat) (ht:P.underlying t=some (.slice e)) (hi:P.info? e=some i) (hz:i.zero=some z)
 (hsize:i.size=size) (hby:i.bytes=bytes) (hzs:z.cells.size=size) (hsz:0 < size)
 (v:Value) (n:Nat) (xs:List Value) (hs:a.eval s=v) (hown:w.ownsRow base e size v n xs)
 (ad:Addr) (m c:Nat) (news:List Value) (hx:a.eval x= .slice (some ad) m c) (hl:news.length=m*size) (hnews:∀j u,news[j]?=some u→w.cell? (ad.add j)=some u) (h1:∀u∈news,u.oneCell'=true)
 (h63:n+m≤maxLen) (hbytes:(n+m)*bytes≤140737488355328) (hbase:base≤w.heap.size)
 (h:∀v' w',w'.ownsRow base e size v' (n+m) (xs++news)→w.grownBy w' v.ownBlock→(v'= .slice none 0 0↔v= .slice none 0 0∧m=0)→K (a.put o.dst v') w'):
 if Region.wanted o (yielded ops a.tmps)=true then Oper.wp P o a w K Q else E:=by
 exact am5
theorem oV {w w':World} {B:Nat} {row:Option Nat} (hk:w.grownBy w' row) (hg:∀k,row=some k→B≤k) (hB:B≤w.heap.size):Below B w w':=⟨hk.os,hk.tape,hk.output,hk.size,fun k hl=>hk.block k (by omega) (fun e=>by have:=hg k e.symm;omega)⟩
theorem CX (p:Pu):∀u∈eG p,u.oneCell'=true:=by
 intro u hu;simp only[eG,List.mem_cons,List.not_mem_nil,or_false] at hu;rcases hu with rfl|rfl|rfl|rfl<;>rfl
theorem SY (v:Value):v.ownBlock=none∨v.ownBlock≠none:=by
 exact ZC
theorem rF (w:World) (a b:Nat):(w.drewN a).drewN b=w.drewN (a+b):=by
 simp[World.drewN,Nat.add_assoc]
theorem Mth.place_at (l:List Pu) (key:ByteArray) (k:Nat) (hk:k≤l.length) (h1:∀q∈l.take k,Op.bytesLess q.k.toList key.toList=true) (h2:∀h:k < l.length,Op.bytesLess l[k].k.toList key.toList=false):place l key=k∧jq l key=l.drop k:=by
 obtain⟨e1,e2⟩:=TG (fun q=>Op.bytesLess q.k.toList key.toList) l k hk h1 h2;unfold place nV jq;rw [e1,e2];exact⟨by simp;omega,rfl⟩
theorem Kr (b off:Nat) (cap:Nat) (l:List Pu) (p:Pu) (n:Int) (w:World) (hcap:l.length≤cap) (hk:∀p∈l,p.k.size≤maxLen) (hpk:p.k.size≤maxLen) (ha:aH w (some ⟨b,off,none⟩) l) (hok:ig l=true) (hn:1≤n∧n≤1000000000):
 Calls Tryz.prog 173 #[.slice (some ⟨b,off,none⟩) l.length cap,wI p,.int .i64 n] w fun e w'=>∃v,e= .returned (.tuple #[v,.bool (nJ l p n).2])∧v≠ .slice none 0 0∧w'.ownsRow w.heap.size 143 4 v (nJ l p n).1.length (GR.flat eG (nJ l p n).1)∧Below w.heap.size w w':=by
 have hl:l.length≤20:=((iU l).1 hok).2.2;have ku:=hide (fun w1 (h:aH w1 (some ⟨b,off,none⟩) l)=>lW (some ⟨b,off,none⟩) cap l w1 (by omega) hk h);have HA:=hide ha;have hn2:decide (sG n 1 1000000000)=true:=decide_eq_true hn;have HW:=hide (show nJ l p n=if ig (gV l p) then(gV l p,true) else(l,false) by unfold nJ;rw [hok,decide_eq_true hn];rfl);clear ha hn;obtain⟨pk,pm,pf,ps⟩:=p;go_enter Tryz.func173,Tryz.ntmps173
 go_wp2_with fail;refine(ku _ (GR.At.below HA (bZ w _))).mono ?_;rintro e w1 ⟨rfl,hb1⟩;have uL:=hide (show w1.heap[w.heap.size]?=some (.cells #[.string pk,.int .i64 pm,.int .i64 pf,.int .i64 ps] 143 (0,0)) by rw [hb1.block w.heap.size (by simp)];exact heap_alloc_new w _);have HB1:=hide ((bZ w _).trans (hb1.mono (bZ w _).size))
 have hbw:b < w1.heap.size∨l.length=0:=by
  rcases Nat.eq_zero_or_pos l.length with h|h
  ·exact .inr h
  ·obtain⟨g,o,e,hg,_⟩:=ah HA 0 h;injection e with e
   injection e with e1 e2
   subst e1;exact .inl (Nat.lt_of_lt_of_le hg HB1.size)
 clear hb1;rw [hok];clear hok;go_wp2_with fail;refine(Kn _ _ _ _).mono ?_;rintro e w3 ⟨rfl,rfl⟩;rw [hn2];go_upto_block 0 with fail;go_cut [8] (fun i wx=>i= .int .i64 (place l pk:Nat)∧∃q,wx=w1.drewN q)
 case first=>
  go_wp2_with fail;go_loopw [8] (fun i wr=>∃k q:Nat,k≤l.length∧i= .int .i64 k∧(∀x∈l.take k,Op.bytesLess x.k.toList pk.toList=true)∧wr=w1.drewN q) (fun i _=>l.length - (intOf i).toNat)
  case atStart=>exact⟨0,0,Nat.zero_le _,rfl,fun x hx=>by simp at hx,rfl⟩
  case round=>
   obtain⟨k,q,hk1,rfl,hall,rfl⟩:=hrel;have kV:=hide hall;clear hall;open air in exact Xz
 case rest=>
  obtain⟨rfl,q,rfl⟩:=hcut;have hpl:=jP l pk
  obtain⟨ad,hAd,hAe⟩:∃ad:Addr,(if cap=place l pk then some (⟨b,off,none⟩:Addr) else some ⟨b,off+place l pk*4,none⟩)=some ad∧(place l pk < l.length→ad=⟨b,off+place l pk*4,none⟩):=by
   by_cases h:cap=place l pk
   ·rw [if_pos h];exact⟨_,rfl,fun h2=>by omega⟩
   ·rw [if_neg h];exact⟨_,rfl,fun _=>rfl⟩
  open aiq in exact Xz
set_option maxHeartbeats 4000000
def gM (w:World) (r:List Pu×Bool) (e:Ending) (w':World):Prop:=∃v,e= .returned (.tuple #[v,.bool r.2])∧v≠ .slice none 0 0∧w'.ownsRow w.heap.size 143 4 v r.1.length (GR.flat eG r.1)∧Below w.heap.size w w'
theorem Mth.purseOf_am {l:List Pu} {key:ByteArray} (h:ig l=true):(0≤(aF l key).m∧(aF l key).m≤1000000000)∧(0≤(aF l key).f∧(aF l key).f≤1000000000)∧(0≤(aF l key).s∧(aF l key).s≤1000000000):=by
 obtain⟨h1,_,_⟩:=(iU l).1 h;unfold aF;cases hf:l.find? (fun p=>p.k.toList == key.toList) with
 |none=>simp
 |some q=>
  have hq:=h1 q (List.mem_of_find?_eq_some hf)
  unfold fH at hq
  simp only[Bool.and_eq_true] at hq
  exact⟨of_decide_eq_true hq.1.1.1.2,of_decide_eq_true hq.1.1.2,of_decide_eq_true hq.1.2⟩
theorem zT (b off cap:Nat) (l:List Pu) (key:ByteArray) (dm df ds n:Int) (w:World) (hl:l.length≤1048600) (hcap:l.length≤cap) (hk:∀p∈l,p.k.size≤1048576) (hkey:key.size≤1048576)
 (hd1:dm= -1∨dm=0∨dm=1) (hd2:df= -1∨df=0∨df=1) (hd3:ds= -1∨ds=0∨ds=1) (ha:aH w (some ⟨b,off,none⟩) l):
 Calls Tryz.prog 115 #[.slice (some ⟨b,off,none⟩) l.length cap,.string key,.int .i64 dm,.int .i64 df,.int .i64 ds,.int .i64 n] w (gM w (bV l key dm df ds n)):=by
 have hkm:∀p∈l,p.k.size≤maxLen:=fun p hp=>by have:=hk p hp;unfold maxLen;omega
 have CP:=hide (qX (some ⟨b,off,none⟩) cap l key w hl ha);have HA:=hide ha;unfold gM;by_cases hin:ig l=true∧1≤n∧n≤1000000000
 ·obtain⟨hok,hn1,hn2⟩:=hin;obtain⟨⟨m0,m1⟩,⟨f0,f1⟩,s0,s1⟩:=purseOf_am (key:=key) hok;obtain⟨u10,u11⟩:=oF hd1 ⟨hn1,hn2⟩;obtain⟨u20,u21⟩:=oF hd2 ⟨hn1,hn2⟩;obtain⟨u30,u31⟩:=oF hd3 ⟨hn1,hn2⟩;have hpk:=mh l key;have Xd:=hide (fun w1 (hb:Below w.heap.size w w1)=>Kr b off cap l (dR (aF l key) dm df ds n) n w1 hcap hkm (by show(aF l key).k.size≤maxLen;rw [hpk];unfold maxLen;omega) (GR.At.below ha hb) hok ⟨hn1,hn2⟩);have hAm:decide (sG n 0 1000000000)=true:=decide_eq_true ⟨by omega,hn2⟩;unfold bV;clear ha hok hk hkm hd1 hd2 hd3;unfold dR at *;generalize aF l key=p at *;obtain⟨pk,pm,pf,ps⟩:=p;dsimp only at *;subst hpk;generalize nJ l ⟨pk,pm+dm*n,pf+df*n,ps+ds*n⟩ n=r at *;go_enter Tryz.func115,Tryz.ntmps115
  go_wp2_with fail;refine CP.mono ?_;rintro e w1 ⟨rfl,hb1⟩;have HB1:=hide hb1;clear hb1 CP;go_wp2_with (go_at_call 62;refine(rJ _ _).mono ?_;rintro e w2 ⟨rfl,rfl⟩;rw [hAm])
  refine(Xd _ (HB1.alloc HB1.size _)).mono ?_;rintro e w3 ⟨v,rfl,hv,hown,hb3⟩;have HB3:=hide ((HB1.alloc HB1.size _).trans (hb3.mono (by have:=HB1.size;simp;omega)));have AQ:=hide (own_lower (b':=w.heap.size) hown (by have:=HB1.size;simp;omega));have HV:=hide hv;clear hb3 hown hv;go_wp2_with fail;exact bodyPost_ret (v:= .tuple #[v,.bool r.2]) (by simp[results,Tryz.results115,go_sem]) rfl ⟨v,rfl,HV,AQ,HB3⟩
 ·have hno:ig l=false∨¬(1≤n∧n≤1000000000):=by
   cases h:ig l
   ·exact .inl rfl
   ·exact .inr (fun hn=>hin ⟨h,hn⟩)
  have HAD:=hide (show bV l key dm df ds n=(l,false) by
   rcases hno with h|h
   ·exact CV h
   ·exact D7 h)
  have HWN:=hide (fun p w1 (hb:Below w.heap.size w w1)=>Ih (some ⟨b,off,none⟩) cap l p n w1 hl hkm (fun h=>by cases h) (GR.At.below ha hb) hno);rw [ah HAD];clear ha hin hno hk hkm hd1 hd2 hd3 HAD;generalize aF l key=p at *;obtain⟨pk,pm,pf,ps⟩:=p;cases hAm:decide (sG n 0 1000000000)
  all_goals
   go_enter Tryz.func115,Tryz.ntmps115
   go_wp2_with fail
   refine CP.mono ?_
   rintro e w1 ⟨rfl,hb1⟩
   have HB1:=hide hb1
   clear hb1 CP
   go_wp2_with (go_at_call 62;refine(rJ _ _).mono ?_;rintro e w2 ⟨rfl,rfl⟩;rw [hAm])
   refine(HWN ⟨_,_,_,_⟩ _ (HB1.alloc HB1.size _)).mono ?_
   rintro e w3 ⟨v,rfl,hv,hown,hb3⟩
   have HB3:=hide ((HB1.alloc HB1.size _).trans (hb3.mono (by have:=HB1.size;simp;omega)))
   have AQ:=hide (own_lower (b':=w.heap.size) hown (by have:=HB1.size;simp;omega))
   have HV:=hide hv
   clear hb3 hown hv
   go_wp2_with fail
   exact bodyPost_ret (v:= .tuple #[v,.bool false]) (by simp[results,Tryz.results115,go_sem]) rfl ⟨v,rfl,HV,AQ,HB3⟩
theorem Al (b off cap:Nat) (l:List Pu) (key:ByteArray) (n:Int) (w:World) (hl:l.length≤1048600) (hcap:l.length≤cap) (hk:∀p∈l,p.k.size≤1048576) (hkey:key.size≤1048576) (ha:aH w (some ⟨b,off,none⟩) l):
 Calls Tryz.prog 38 #[.slice (some ⟨b,off,none⟩) l.length cap,.string key,.int .i64 n] w (gM w (bV l key (1) (1) (0) n)):=by
 have H:=hide (zT b off cap l key (1) (1) (0) n w hl hcap hk hkey (by omega) (by omega) (by omega) ha);clear ha hk;generalize bV l key (1) (1) (0) n=r at *;unfold gM at *;go_enter Tryz.func38,Tryz.ntmps38
 open agV in exact QI
theorem Tq (b off cap:Nat) (l:List Pu) (key:ByteArray) (n:Int) (w:World) (hl:l.length≤1048600) (hcap:l.length≤cap) (hk:∀p∈l,p.k.size≤1048576) (hkey:key.size≤1048576) (ha:aH w (some ⟨b,off,none⟩) l):
 Calls Tryz.prog 98 #[.slice (some ⟨b,off,none⟩) l.length cap,.string key,.int .i64 n] w (gM w (bV l key (0) (1) (0) n)):=by
 have H:=hide (zT b off cap l key (0) (1) (0) n w hl hcap hk hkey (by omega) (by omega) (by omega) ha);clear ha hk;generalize bV l key (0) (1) (0) n=r at *;unfold gM at *;go_enter Tryz.func98,Tryz.ntmps98
 open agU in exact QI
theorem Ja (b off cap:Nat) (l:List Pu) (key:ByteArray) (n:Int) (w:World) (hl:l.length≤1048600) (hcap:l.length≤cap) (hk:∀p∈l,p.k.size≤1048576) (hkey:key.size≤1048576) (ha:aH w (some ⟨b,off,none⟩) l):
 Calls Tryz.prog 121 #[.slice (some ⟨b,off,none⟩) l.length cap,.string key,.int .i64 n] w (gM w (bV l key (0) (-1) (0) n)):=by
 have H:=hide (zT b off cap l key (0) (-1) (0) n w hl hcap hk hkey (by omega) (by omega) (by omega) ha);clear ha hk;generalize bV l key (0) (-1) (0) n=r at *;unfold gM at *;go_enter Tryz.func121,Tryz.ntmps121
 open agT in exact QI
theorem OQ (b off cap:Nat) (l:List Pu) (key:ByteArray) (n:Int) (w:World) (hl:l.length≤1048600) (hcap:l.length≤cap) (hk:∀p∈l,p.k.size≤1048576) (hkey:key.size≤1048576) (ha:aH w (some ⟨b,off,none⟩) l):
 Calls Tryz.prog 117 #[.slice (some ⟨b,off,none⟩) l.length cap,.string key,.int .i64 n] w (gM w (bV l key (0) (-1) (1) n)):=by
 have H:=hide (zT b off cap l key (0) (-1) (1) n w hl hcap hk hkey (by omega) (by omega) (by omega) ha);clear ha hk;generalize bV l key (0) (-1) (1) n=r at *;unfold gM at *;go_enter Tryz.func117,Tryz.ntmps117
 open agS in exact QI
theorem Je (b off cap:Nat) (l:List Pu) (key:ByteArray) (n:Int) (w:World) (hl:l.length≤1048600) (hcap:l.length≤cap) (hk:∀p∈l,p.k.size≤1048576) (hkey:key.size≤1048576) (ha:aH w (some ⟨b,off,none⟩) l):
 Calls Tryz.prog 118 #[.slice (some ⟨b,off,none⟩) l.length cap,.string key,.int .i64 n] w (gM w (bV l key (0) (1) (-1) n)):=by
 have H:=hide (zT b off cap l key (0) (1) (-1) n w hl hcap hk hkey (by omega) (by omega) (by omega) ha);clear ha hk;generalize bV l key (0) (1) (-1) n=r at *;unfold gM at *;go_enter Tryz.func118,Tryz.ntmps118
 open agR in exact QI
set_option maxHeartbeats 8000000
def oq (l:List Rq) (no:Int):Int:=if kK l no=true then(dx l no:Int) else -1
theorem vZ (n:Nd) (A:bE) (no:Int) (w:World) (hl:n.reqs.length≤1000) (hp:n.reqs.Pairwise (fun s t=>s.no < t.no)) (ha:iA w A.r n.reqs):
 Calls Tryz.prog 116 #[gu n A,.int .i64 no] w fun e w'=>e= .returned (.int .i64 (oq n.reqs no))∧Below w.heap.size w w':=by
 have HA:=hide ha;have HP:=hide hp;have HB0:=hide (au w (.cells (fZ n A) 30));have Fz:=hide (heap_alloc_new w (.cells (fZ n A) 30));obtain⟨R,hR⟩:∃R,oq n.reqs no=R:=⟨_,rfl⟩;have HR:=hide hR;rw [hR];clear ha hp hR;go_enter Tryz.func116,Tryz.ntmps116
 go_wp2_with fail;go_loopw [5] (fun i wr=>∃k:Nat,k≤n.reqs.length∧i= .int .i64 k∧(∀j (hj:j < n.reqs.length),j < k→n.reqs[j].no≠no)∧Below (w.alloc (.cells (fZ n A) 30)).heap.size (w.alloc (.cells (fZ n A) 30)) wr) (fun i _=>n.reqs.length - (intOf i).toNat)
 case atStart=>exact⟨0,Nat.zero_le _,rfl,fun j _ h=>by omega,Below.refl _ _⟩
 case round=>
  obtain⟨k,hk,rfl,hno,hbw⟩:=hrel;have jY:=hide hno;have Jt:=hide (aj Fz hbw);have Pz:=hide (HB0.trans (hbw.mono HB0.size));have iD:=hide hbw;obtain⟨c0,c1,c2,c3,c4,c5,c6,c7,c8⟩:=nine Jt;have hnl:=aA Jt;clear hno hbw;by_cases hlt:k < n.reqs.length
  ·have GL:(k:Int) < (n.reqs.length:Int):=by omega
   obtain⟨g,off,e0,hg,q0,q1,q2,q3⟩:=iA.four (GR.At.below HA Pz) k hlt;rw [e0] at c8;clear e0;by_cases he:n.reqs[k].no=no
   ·have HF:=hide (Iw HP hlt he)
    have hRk:R=k:=by
     rw [←ah HR];unfold oq;rw [if_pos (ah HF).2,(ah HF).1]
    subst hRk;rw [he] at q0;have hq:(no == no)=true:=by simp
    go_wp2_with fail;go_ret;exact⟨rfl,Pz⟩
   ·have hq:(n.reqs[k].no == no)=false:=by simpa using he
    have HE:=hide he;clear he;generalize hx:n.reqs[k].no=x0 at *;have HX:=hide hx;clear hx;go_wp2_with fail;go_roundw
    case rel=>exact⟨k+1,by omega,by go_num,fun j hj hjk=>by
     by_cases e:j=k
     ·subst e;rw [ah HX];exact HE
     ·exact jY j hj (by omega),iD⟩
    case measure=>simp[intOf];omega
  ·have hke:k=n.reqs.length:=by omega
   subst hke;have hnlt:decide ((n.reqs.length:Int) < (n.reqs.length:Int))=false:=by simp
   have hRk:R= -1:=by
    rw [←ah HR];unfold oq;rw [if_neg (by rw [Oz (fun q hq=>by obtain⟨j,hj,rfl⟩:=List.mem_iff_getElem.1 hq;exact ah jY j hj hj)];simp)]
   subst hRk;go_wp2_with fail;go_ret;exact⟨rfl,Pz⟩
theorem GR.own_ati {α:Type} {enc:α→List Value} {sz:Nat} {w:World} {B:Nat} {t:TypeId} {a:Option Addr} {c:Nat} {l:List α} (hs:∀x,(enc x).length=sz) (h:w.ownsRow B t sz (.slice a l.length c) l.length (GR.flat enc l)):GR.At enc sz w a l:=by
 obtain⟨a',c',e,h'⟩:=GR.own_at hs h;simp only[Value.slice.injEq] at e;rw [e.1];exact h'
def Apart (c:Nat→Nat) (w w':World):Prop:=∀x,x < w.heap.size→6 < c x→w'.heap[x]?=w.heap[x]?
theorem Apart.of_below {c:Nat→Nat} {w w':World} (h:Below w.heap.size w w'):Apart c w w':=fun x hx _=>h.block x hx
theorem Apart.keeps {c:Nat→Nat} {w X W':World} {F:List Nat} (h:Apart c w X) (hs:w.heap.size≤X.heap.size) (hk:aC F X W') (hF:∀x∈F,w.heap.size≤x∨c x≤6):Apart c w W':=fun x hx hc=>(hk.block x (by omega) (fun hm=>by have:=hF x hm;omega)).trans (h x hx hc)
theorem Apart.step {c:Nat→Nat} {w X W':World} (h:Apart c w X) (hs:w.heap.size≤X.heap.size) (hb:Below X.heap.size X W'):Apart c w W':=fun x hx hc=>(hb.block x (by omega)).trans (h x hx hc)
theorem Apart.grown {c:Nat→Nat} {w X W':World} {row:Option Nat} (h:Apart c w X) (hs:w.heap.size≤X.heap.size) (hg:X.grownBy W' row) (hr:∀x,row=some x→x < w.heap.size→c x≤6):Apart c w W':=fun x hx hc=>(hg.block x (by omega) (fun hm=>by have:=hr x hm.symm hx;omega)).trans (h x hx hc)
def Out (c:Nat→Nat) (w W' W'':World):Prop:=∃F,aC F W' W''∧∀x∈F,x < w.heap.size∧6 < c x
theorem Out.refl {c:Nat→Nat} {w W':World}:Out c w W' W':=⟨[],aC.refl _ _,fun x hx=>by simp at hx⟩
theorem KC.out {c:Nat→Nat} {w W' W'':World} (h9:∀x,6 < c x→c x=9) (h:Out c w W' W''):KC (newC w.heap.size 9 c) 9 W' W'':=by
 obtain⟨F,hk,hF⟩:=h;exact KC.keeps hk (fun x hx=>by rw [dH (hF x hx).1];exact h9 x (hF x hx).2)
def gG (w:World) (B:Nat) (c:Nat→Nat) (R:Nd×Int) (e:Ending) (w':World):Prop:=∃A',e= .returned (.tuple #[gu R.1 A',.int .i64 R.2])∧(∀W'',Out c w w' W''→RM W'' A' R.1)∧Below B w w'∧Apart c w w'
theorem NQ.nine {w:World} {B:Nat} {n:Nd} {A:bE} {G:aU} {c:Nat→Nat} (h:NQ w B n A G c) (hB:B≤w.heap.size):NQ w B n A G (newC w.heap.size 9 c):=h.recol hB (fun _ hx=>dH hx)
theorem Cj (n:Nd) (A:bE) (G:aU) (c:Nat→Nat) (no:Int) (w:World) (B:Nat) (hB:B≤w.heap.size) (h9:∀x,6 < c x→c x=9) (hs:no≤n.old) (h:NQ w B n A G c):Calls Tryz.prog 40 #[gu n A,.int .i64 no] w (gG w B c (aX n no)):=by
 have hR:aX n no=(n,2):=if_pos hs;rw [hR];clear hR;unfold gG;have H9:=hide h9;clear h9;have hbw0:=au w (.cells (fZ n A) 30);open aiE in exact LV
theorem E9 (n:Nd) (A:bE) (G:aU) (c:Nat→Nat) (no:Int) (w:World) (B:Nat) (hB:B≤w.heap.size) (h9:∀x,6 < c x→c x=9) (hok:fQ n=true) (hs:¬no≤n.old) (hf:kK n.reqs no=false) (h:NQ w B n A G c):Calls Tryz.prog 40 #[gu n A,.int .i64 no] w (gG w B c (aX n no)):=by
 have hR:aX n no=(n,1):=by unfold aX;rw [if_neg hs,if_pos hf]
 have hJ:oq n.reqs no= -1:=by unfold oq;rw [if_neg (by rw [hf];simp)]
 rw [hR];clear hR hf;have hp:=gQ hok;have FZ:=hide (fun W1 (ha:iA W1 A.r n.reqs)=>vZ n A no W1 (by omega) hp.1 ha);rw [hJ] at FZ;clear hp hok;unfold gG;have H9:=hide h9;clear h9;have hbw0:=au w (.cells (fZ n A) 30);open aiD in exact LV
theorem Jb (n:Nd) (a_k iy dA dJ fq:Option Addr) (aI bf aM aJ aQ:Nat) (G:aU) (c:Nat→Nat) (no:Int) (w:World) (B:Nat) (hB:B≤w.heap.size) (h9:∀x,6 < c x→c x=9) (i:Nat) (hi:i < n.reqs.length) (hok:fQ n=true) (hs:¬no≤n.old) (hJ:oq n.reqs no=i) (hR:aX n no=(n,1)) (hst:n.reqs[i].s=1) (h:NQ w B n (⟨a_k,iy,dA,dJ,fq,aI,bf,aM,aJ,aQ⟩:bE) G c):Calls Tryz.prog 40 #[gu n (⟨a_k,iy,dA,dJ,fq,aI,bf,aM,aJ,aQ⟩:bE),.int .i64 no] w (gG w B c (aX n no)):=by
 rw [hR];open ao9 in exact alO
theorem Ci (n:Nd) (a_k iy dA dJ fq:Option Addr) (aI bf aM aJ aQ:Nat) (G:aU) (c:Nat→Nat) (no:Int) (w:World) (B:Nat) (hB:B≤w.heap.size) (h9:∀x,6 < c x→c x=9) (i:Nat) (hi:i < n.reqs.length) (hok:fQ n=true) (hs:¬no≤n.old) (hJ:oq n.reqs no=i) (hR:aX n no=(n,0)) (hst:n.reqs[i].s=2) (h:NQ w B n (⟨a_k,iy,dA,dJ,fq,aI,bf,aM,aJ,aQ⟩:bE) G c):Calls Tryz.prog 40 #[gu n (⟨a_k,iy,dA,dJ,fq,aI,bf,aM,aJ,aQ⟩:bE),.int .i64 no] w (gG w B c (aX n no)):=by
 rw [hR];open ao8 in exact alO
theorem vY (n:Nd) (a_k iy dA dJ fq:Option Addr) (aI bf aM aJ aQ:Nat) (G:aU) (c:Nat→Nat) (no:Int) (w:World) (B:Nat) (hB:B≤w.heap.size) (h9:∀x,6 < c x→c x=9) (i:Nat) (hi:i < n.reqs.length) (hz:eH n 1048576) (hP:∃g,iy=some ⟨g,0,none⟩) (qd:n.pu.length≤bf) (hok:fQ n=true) (hs:¬no≤n.old) (hJ:oq n.reqs no=i) (RL:List Pu) (hR:aX n no=(n,1)) (hst:n.reqs[i].s=0) (hu:bV n.pu n.reqs[i].k 0 1 (-1) n.reqs[i].n=(RL,false)) (h:NQ w B n (⟨a_k,iy,dA,dJ,fq,aI,bf,aM,aJ,aQ⟩:bE) G c):Calls Tryz.prog 40 #[gu n (⟨a_k,iy,dA,dJ,fq,aI,bf,aM,aJ,aQ⟩:bE),.int .i64 no] w (gG w B c (aX n no)):=by
 rw [hR];obtain⟨gp,Ru⟩:=hP;subst Ru;have hiI:(i:Int) < (n.reqs.length:Int):=by omega
 have HST:=hide hst;open apD in exact alQ
theorem xH (n:Nd) (a_k iy dA dJ fq:Option Addr) (aI bf aM aJ aQ:Nat) (G:aU) (c:Nat→Nat) (no:Int) (w:World) (B:Nat) (hB:B≤w.heap.size) (h9:∀x,6 < c x→c x=9) (i:Nat) (hi:i < n.reqs.length) (hz:eH n 1048576) (hP:∃g,iy=some ⟨g,0,none⟩) (qd:n.pu.length≤bf) (hok:fQ n=true) (hs:¬no≤n.old) (hJ:oq n.reqs no=i) (RL:List Pu) (hR:aX n no=(dD (setPu n RL) (n.reqs.set i (lV n.reqs[i])),0)) (hst:n.reqs[i].s=0) (hu:bV n.pu n.reqs[i].k 0 1 (-1) n.reqs[i].n=(RL,true)) (h:NQ w B n (⟨a_k,iy,dA,dJ,fq,aI,bf,aM,aJ,aQ⟩:bE) G c):Calls Tryz.prog 40 #[gu n (⟨a_k,iy,dA,dJ,fq,aI,bf,aM,aJ,aQ⟩:bE),.int .i64 no] w (gG w B c (aX n no)):=by
 rw [hR];obtain⟨gp,Ru⟩:=hP;subst Ru;have hiI:(i:Int) < (n.reqs.length:Int):=by omega
 have HST:=hide hst;open apC in exact alQ
theorem Jc (n:Nd) (A:bE) (G:aU) (c:Nat→Nat) (no:Int) (w:World) (B:Nat) (hB:B≤w.heap.size) (h9:∀x,6 < c x→c x=9) (hz:eH n 1048576) (hP:∃g,A.p=some ⟨g,0,none⟩) (qd:n.pu.length≤A.cp) (hok:fQ n=true) (h:NQ w B n A G c):Calls Tryz.prog 40 #[gu n A,.int .i64 no] w (gG w B c (aX n no)):=by
 by_cases hs:no≤n.old
 ·exact Cj n A G c no w B hB h9 hs h
 cases hf:kK n.reqs no with
 |false=>exact E9 n A G c no w B hB h9 hok hs hf h
 |true=>
  have hil:=((lu n.reqs no).1 hf).1
  have hgd:n.reqs.getD (dx n.reqs no) default=n.reqs[dx n.reqs no]:=by rw [List.getD_eq_getElem?_getD,List.getElem?_eq_getElem hil];rfl
  have hJ:oq n.reqs no=(dx n.reqs no:Nat):=by unfold oq;rw [if_pos hf]
  obtain⟨_,_,_,_,b1,b2⟩:=iV ((gQ hok).2.2.1 _ (List.getElem_mem hil))
  obtain⟨ak,ap,ao,az,ar,ck,cp,co,cs,cr⟩:=A
  by_cases s1:n.reqs[dx n.reqs no].s=1
  ·exact Jb n ak ap ao az ar ck cp co cs cr G c no w B hB h9 _ hil hok hs hJ (by unfold aX;rw [if_neg hs,if_neg (by rw [hf];simp),hgd,if_pos s1]) s1 h
  by_cases s2:n.reqs[dx n.reqs no].s=2
  ·exact Ci n ak ap ao az ar ck cp co cs cr G c no w B hB h9 _ hil hok hs hJ (by unfold aX;rw [if_neg hs,if_neg (by rw [hf];simp),hgd,if_neg s1,if_pos s2]) s2 h
  obtain⟨R,hR⟩:∃R,bV n.pu n.reqs[dx n.reqs no].k 0 1 (-1) n.reqs[dx n.reqs no].n=R:=⟨_,rfl⟩
  obtain⟨RL,b⟩:=R
  have hrel:aX n no=if b=true then(dD (setPu n RL) (n.reqs.set (dx n.reqs no) (lV n.reqs[dx n.reqs no])),0) else(n,1):=by
   unfold aX;rw [if_neg hs,if_neg (by rw [hf];simp),hgd,if_neg s1,if_neg s2,hR]
  cases b with
  |false=>exact vY n ak ap ao az ar ck cp co cs cr G c no w B hB h9 _ hil hz hP qd hok hs hJ RL (by rw [hrel];simp) (by omega) hR h
  |true=>exact xH n ak ap ao az ar ck cp co cs cr G c no w B hB h9 _ hil hz hP qd hok hs hJ RL (by rw [hrel];simp) (by omega) hR h
set_option maxHeartbeats 16000000
def dZ (w:World) (B:Nat) (c:Nat→Nat) (R:Nd×List Mg×Int) (e:Ending) (w':World):Prop:=∃A' a cp,e= .returned (.tuple #[gu R.1 A',.slice a R.2.1.length cp,.int .i64 R.2.2])∧(∀W'',Out c w w' W''→RM W'' A' R.1)∧(∀W'',Out c w w' W''→GR.At gX 7 W'' a R.2.1)∧Below B w w'∧Apart c w w'
theorem ES (n:Nd) (A:bE) (G:aU) (c:Nat→Nat) (dst:Int) (key:ByteArray) (most:Int) (w:World) (B:Nat) (hB:B≤w.heap.size) (h9:∀x,6 < c x→c x=9) (pk:ByteArray) (pm pf ps:Int) (hpp:aF n.pu key=⟨pk,pm,pf,ps⟩) (hl:n.pu.length≤1048600) (hc:¬pf < most) (h1:most < 1) (h:NQ w B n A G c):Calls Tryz.prog 42 #[gu n A,.int .i64 dst,.string key,.int .i64 most] w (dZ w B c (n,[],1)):=by
 have q0:decide (pf < most)=false:=by simpa using hc
 have q1:decide (most < 1)=true:=by simpa using h1
 exact Za0
theorem ET (n:Nd) (A:bE) (G:aU) (c:Nat→Nat) (dst:Int) (key:ByteArray) (most:Int) (w:World) (B:Nat) (hB:B≤w.heap.size) (h9:∀x,6 < c x→c x=9) (pk:ByteArray) (pm pf ps:Int) (hpp:aF n.pu key=⟨pk,pm,pf,ps⟩) (hl:n.pu.length≤1048600) (hc:¬pf < most) (h1:¬most < 1) (h2:40≤n.out.length) (h:NQ w B n A G c):Calls Tryz.prog 42 #[gu n A,.int .i64 dst,.string key,.int .i64 most] w (dZ w B c (n,[],1)):=by
 have q0:decide (pf < most)=false:=by simpa using hc
 have q1:decide (most < 1)=false:=by simpa using h1
 exact Zc
theorem EU (n:Nd) (A:bE) (G:aU) (c:Nat→Nat) (dst:Int) (key:ByteArray) (most:Int) (w:World) (B:Nat) (hB:B≤w.heap.size) (h9:∀x,6 < c x→c x=9) (pk:ByteArray) (pm pf ps:Int) (hpp:aF n.pu key=⟨pk,pm,pf,ps⟩) (hl:n.pu.length≤1048600) (hc:¬pf < most) (h1:¬most < 1) (h2:¬40≤n.out.length) (h3:1000000000≤n.next) (h:NQ w B n A G c):Calls Tryz.prog 42 #[gu n A,.int .i64 dst,.string key,.int .i64 most] w (dZ w B c (n,[],1)):=by
 have q0:decide (pf < most)=false:=by simpa using hc
 have q1:decide (most < 1)=false:=by simpa using h1
 exact ang
theorem EW (n:Nd) (A:bE) (G:aU) (c:Nat→Nat) (dst:Int) (key:ByteArray) (most:Int) (w:World) (B:Nat) (hB:B≤w.heap.size) (h9:∀x,6 < c x→c x=9) (pk:ByteArray) (pm pf ps:Int) (hpp:aF n.pu key=⟨pk,pm,pf,ps⟩) (hl:n.pu.length≤1048600) (hc:pf < most) (h1:pf < 1) (h:NQ w B n A G c):Calls Tryz.prog 42 #[gu n A,.int .i64 dst,.string key,.int .i64 most] w (dZ w B c (n,[],1)):=by
 have q0:decide (pf < most)=true:=by simpa using hc
 have q1:decide (pf < 1)=true:=by simpa using h1
 exact Za0
theorem EX (n:Nd) (A:bE) (G:aU) (c:Nat→Nat) (dst:Int) (key:ByteArray) (most:Int) (w:World) (B:Nat) (hB:B≤w.heap.size) (h9:∀x,6 < c x→c x=9) (pk:ByteArray) (pm pf ps:Int) (hpp:aF n.pu key=⟨pk,pm,pf,ps⟩) (hl:n.pu.length≤1048600) (hc:pf < most) (h1:¬pf < 1) (h2:40≤n.out.length) (h:NQ w B n A G c):Calls Tryz.prog 42 #[gu n A,.int .i64 dst,.string key,.int .i64 most] w (dZ w B c (n,[],1)):=by
 have q0:decide (pf < most)=true:=by simpa using hc
 have q1:decide (pf < 1)=false:=by simpa using h1
 exact Zc
theorem EY (n:Nd) (A:bE) (G:aU) (c:Nat→Nat) (dst:Int) (key:ByteArray) (most:Int) (w:World) (B:Nat) (hB:B≤w.heap.size) (h9:∀x,6 < c x→c x=9) (pk:ByteArray) (pm pf ps:Int) (hpp:aF n.pu key=⟨pk,pm,pf,ps⟩) (hl:n.pu.length≤1048600) (hc:pf < most) (h1:¬pf < 1) (h2:¬40≤n.out.length) (h3:1000000000≤n.next) (h:NQ w B n A G c):Calls Tryz.prog 42 #[gu n A,.int .i64 dst,.string key,.int .i64 most] w (dZ w B c (n,[],1)):=by
 have q0:decide (pf < most)=true:=by simpa using hc
 have q1:decide (pf < 1)=false:=by simpa using h1
 exact ang
theorem I7 (n:Nd) (a_k iy dA dJ fq:Option Addr) (aI bf aM aJ aQ:Nat) (G:aU) (c:Nat→Nat) (dst:Int) (key:ByteArray) (most:Int) (w:World) (B:Nat) (hB:B≤w.heap.size) (h9:∀x,6 < c x→c x=9) (pk:ByteArray) (pm pf ps:Int) (hpp:aF n.pu key=⟨pk,pm,pf,ps⟩) (hl:n.pu.length≤1048600) (hz:eH n 1048576) (hkey:key.size≤1048576) (hP:∃g,iy=some ⟨g,0,none⟩) (qd:n.pu.length≤bf) (RL:List Pu) (bu:Bool) (hu:bV n.pu key 0 (-1) 0 most=(RL,bu)) (hc:¬pf < most) (h1:¬most < 1) (h2:¬40≤n.out.length) (h3:¬1000000000≤n.next) (h0:0≤n.next) (h:NQ w B n (⟨a_k,iy,dA,dJ,fq,aI,bf,aM,aJ,aQ⟩:bE) G c):Calls Tryz.prog 42 #[gu n (⟨a_k,iy,dA,dJ,fq,aI,bf,aM,aJ,aQ⟩:bE),.int .i64 dst,.string key,.int .i64 most] w (dZ w B c (⟨n.id,n.par,n.kids,n.next+1,RL,n.out++[⟨n.next,dst,key,most⟩],n.seen,n.old,n.reqs⟩,[lG ⟨n.id,n.par,n.kids,n.next+1,RL,n.out++[⟨n.next,dst,key,most⟩],n.seen,n.old,n.reqs⟩ ⟨n.next,dst,key,most⟩],0)):=by
 have q0:decide (pf < most)=false:=by simpa using hc
 have q1:decide (most < 1)=false:=by simpa using h1
 open ajh in exact XT
theorem I8 (n:Nd) (a_k iy dA dJ fq:Option Addr) (aI bf aM aJ aQ:Nat) (G:aU) (c:Nat→Nat) (dst:Int) (key:ByteArray) (most:Int) (w:World) (B:Nat) (hB:B≤w.heap.size) (h9:∀x,6 < c x→c x=9) (pk:ByteArray) (pm pf ps:Int) (hpp:aF n.pu key=⟨pk,pm,pf,ps⟩) (hl:n.pu.length≤1048600) (hz:eH n 1048576) (hkey:key.size≤1048576) (hP:∃g,iy=some ⟨g,0,none⟩) (qd:n.pu.length≤bf) (RL:List Pu) (bu:Bool) (hu:bV n.pu key 0 (-1) 0 pf=(RL,bu)) (hc:pf < most) (h1:¬pf < 1) (h2:¬40≤n.out.length) (h3:¬1000000000≤n.next) (h0:0≤n.next) (h:NQ w B n (⟨a_k,iy,dA,dJ,fq,aI,bf,aM,aJ,aQ⟩:bE) G c):Calls Tryz.prog 42 #[gu n (⟨a_k,iy,dA,dJ,fq,aI,bf,aM,aJ,aQ⟩:bE),.int .i64 dst,.string key,.int .i64 most] w (dZ w B c (⟨n.id,n.par,n.kids,n.next+1,RL,n.out++[⟨n.next,dst,key,pf⟩],n.seen,n.old,n.reqs⟩,[lG ⟨n.id,n.par,n.kids,n.next+1,RL,n.out++[⟨n.next,dst,key,pf⟩],n.seen,n.old,n.reqs⟩ ⟨n.next,dst,key,pf⟩],0)):=by
 have q0:decide (pf < most)=true:=by simpa using hc
 have q1:decide (pf < 1)=false:=by simpa using h1
 open ajg in exact XT
theorem IZ (n:Nd) (A:bE) (G:aU) (c:Nat→Nat) (dst:Int) (key:ByteArray) (most:Int) (w:World) (B:Nat) (hB:B≤w.heap.size) (h9:∀x,6 < c x→c x=9) (hz:eH n 1048576) (hkey:key.size≤1048576) (hP:∃g,A.p=some ⟨g,0,none⟩) (qd:n.pu.length≤A.cp) (h0:0≤n.next) (h:NQ w B n A G c):Calls Tryz.prog 42 #[gu n A,.int .i64 dst,.string key,.int .i64 most] w (dZ w B c ((dV n dst key most).1,(dV n dst key most).2.1,if (dV n dst key most).2.2=true then 0 else 1)):=by
 obtain⟨pp,hpp⟩:∃pp,aF n.pu key=pp:=⟨_,rfl⟩;obtain⟨pk,pm,pf,ps⟩:=pp;have hl:n.pu.length≤1048600:=Nat.le_trans hz.p (by omega)
 have key2:∀oI,lN n key most=oI→(¬(1≤oI∧n.out.length < 40∧n.next < 1000000000)→((dV n dst key most).1,(dV n dst key most).2.1,if (dV n dst key most).2.2=true then(0:Int) else 1)=(n,[],1))∧((1≤oI∧n.out.length < 40∧n.next < 1000000000)→((dV n dst key most).1,(dV n dst key most).2.1,if (dV n dst key most).2.2=true then(0:Int) else 1)=(nG n dst key oI,[lG (nG n dst key oI) ⟨n.next,dst,key,oI⟩],0)):=fun oI e=>by
  subst e
  constructor
  ·intro hn;have e:Iu n (lN n key most)=false:=by unfold Iu;exact decide_eq_false hn
   unfold dV;rw [e];rfl
  ·intro hy;have e:Iu n (lN n key most)=true:=by unfold Iu;exact decide_eq_true hy
   unfold dV;rw [e];rfl
 obtain⟨ak,ap,ao,az,ar,ck,cp,co,cs,cr⟩:=A;by_cases hc:pf < most
 ·obtain⟨k1,k2⟩:=key2 pf (by unfold lN;rw [hpp];exact if_pos hc);obtain⟨R,hR⟩:∃R,bV n.pu key 0 (-1) 0 pf=R:=⟨_,rfl⟩;by_cases h1:pf < 1
  ·rw [k1 (by omega)];exact EW n _ G c dst key most w B hB h9 pk pm pf ps hpp hl hc h1 h
  by_cases h2:40≤n.out.length
  ·rw [k1 (by omega)];exact EX n _ G c dst key most w B hB h9 pk pm pf ps hpp hl hc h1 h2 h
  by_cases h3:1000000000≤n.next
  ·rw [k1 (by omega)];exact EY n _ G c dst key most w B hB h9 pk pm pf ps hpp hl hc h1 h2 h3 h
  rw [k2 (by omega)];unfold nG;rw [hR];exact I8 n ak ap ao az ar ck cp co cs cr G c dst key most w B hB h9 pk pm pf ps hpp hl hz hkey hP qd R.1 R.2 hR hc h1 h2 h3 h0 h
 ·obtain⟨k1,k2⟩:=key2 most (by unfold lN;rw [hpp];exact if_neg hc);obtain⟨R,hR⟩:∃R,bV n.pu key 0 (-1) 0 most=R:=⟨_,rfl⟩;by_cases h1:most < 1
  ·rw [k1 (by omega)];exact ES n _ G c dst key most w B hB h9 pk pm pf ps hpp hl hc h1 h
  by_cases h2:40≤n.out.length
  ·rw [k1 (by omega)];exact ET n _ G c dst key most w B hB h9 pk pm pf ps hpp hl hc h1 h2 h
  by_cases h3:1000000000≤n.next
  ·rw [k1 (by omega)];exact EU n _ G c dst key most w B hB h9 pk pm pf ps hpp hl hc h1 h2 h3 h
  rw [k2 (by omega)];unfold nG;rw [hR];exact I7 n ak ap ao az ar ck cp co cs cr G c dst key most w B hB h9 pk pm pf ps hpp hl hz hkey hP qd R.1 R.2 hR hc h1 h2 h3 h0 h
end Go.Proofs.YtacgbldlonoaaaaGreatDoor
