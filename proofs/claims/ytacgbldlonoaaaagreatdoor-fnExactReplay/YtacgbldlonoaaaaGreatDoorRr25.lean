/- Parts. -/
import Derived.Test.YtacgbldlonoaaaaGreatDoorRr17
import Derived.Test.YtacgbldlonoaaaaGreatDoorRr21
namespace Go.Proofs.YtacgbldlonoaaaaGreatDoor
set_option maxHeartbeats 4000000
set_option maxRecDepth 100000
open Go.RowKit Go.Maps
open Mth
theorem Ug (a:Option Addr) (cap:Nat) (l:List Pu) (key:ByteArray) (dm df ds n:Int) (E:Nat->Addr) (w:World) (hl:l.length<=1048576) (hks:∀p∈l,p.k.size<=1048576) (hkey:key.size<=1048576)
 (hd1:dm= -1\/dm=0\/dm=1) (hd2:df= -1\/df=0\/df=1) (hd3:ds= -1\/ds=0\/ds=1) (ha:aH w a l) (he:iG w E):
 Calls Tryz.prog 225 #[.slice a l.length cap,.string key,.int .i64 n,shv dm df ds] w λe w'=>aX w w'/\
  (((dx l key dm df ds n).2=false/\∃i,i < 5/\e= .returned (.tuple #[.slice none 0 0,tV (E i)]))\/
   ((dx l key dm df ds n).2=true/\∃g,w.heap.size<=g/\e= .returned (.tuple #[.slice (some ⟨g,0,none⟩) (dx l key dm df ds n).1.length (dx l key dm df ds n).1.length,.nilIface])/\uH w' g (dx l key dm df ds n).1)):=by
 have hb0:=dM w (.cells #[.int .i64 dm,.int .i64 df,.int .i64 ds] 220);cases hok:iW l
 .have jP:=Hq (Jr a cap l E _ Aaa (GR.At.below ha hb0) (he.below hb0) hok);have HAD:=Hq (GI (key:=key) (dm:=dm) (df:=df) (ds:=ds) (n:=n) hok);clear ha he hks hok hb0 hd1 hd2 hd3;go_enter Tryz.func225,Tryz.ntmps225
  go_wp2_with fail;refine jP.mono ?_;rintro e w1 ⟨rfl,hb1⟩;have HB1:=Hq (Fo.one_block hb1).2.2;clear hb1;go_wp2_with fail;go_ret2
  exact⟨HB1,.inl ⟨by rw [ah HAD],_,Aaa,rfl⟩⟩
 have HOF:=Hq (EZ a cap l _ (GR.At.below ha hb0) hks hok);have HE:=Hq he;cases hkk:keyOk key.data.toList
 .have HK:=Hq (λw1=>xY key false w1 hkk)
  have HAD:Hid ((dx l key dm df ds n).2=false):=by
   by_cases hn:1<=n/\n<=1000000000
   .rw [IY hok hn,UO hkk];rfl
   .rw [IZ hn];exact Hq rfl
  clear ha he hks hok hb0 hd1 hd2 hd3 hkk;go_enter Tryz.func225,Tryz.ntmps225
  go_wp2_with fail;refine HOF.mono ?_;rintro e w1 ⟨mp,mb,v,rfl,zO,hb1⟩;have HB1:=Hq (Fo.one_block hb1).2.2;have ve:=(HE.below HB1).var 0 Aaa;clear hb1 zO HOF;go_wp2_with (go_at_call 131;refine(HK _).mono ?_;rintro e w2 ⟨rfl,rfl⟩)
  go_quiet (fail);go_wp2_with fail;go_ret2
  exact⟨HB1.trans ⟨rfl,rfl,rfl,Nat.le_refl _,λ_ _=>rfl⟩,.inl ⟨HAD,_,Aaa,rfl⟩⟩
 have HK:=Hq (λw1=>xY key true w1 hkk);by_cases hn:1<=n/\n<=1000000000
 case' neg=>
  have HAD:=Hq (IZ (l:=l) (key:=key) (dm:=dm) (df:=df) (ds:=ds) hn)
  have Ew:=Hq (λw1=>isSomeAmount n false w1 (decide_eq_false hn))
  clear ha he hks hok hb0 hd1 hd2 hd3 hkk
  go_enter Tryz.func225,Tryz.ntmps225
  go_wp2_with fail
  refine HOF.mono ?_
  rintro e w1 ⟨mp,mb,v,rfl,zO,hb1⟩
  have HB1:=Hq (Fo.one_block hb1).2.2
  have ve:=(HE.below HB1).var 1 Aaa
  clear hb1 zO HOF
  go_wp2_with (first|(go_at_call 131;refine(HK _).mono ?_;rintro e w2 ⟨rfl,rfl⟩)|(go_at_call 54;refine(Ew _).mono ?_;rintro e w2 ⟨rfl,rfl⟩))
  go_quiet (fail)
  go_wp2_with fail
  go_ret2
  exact⟨HB1.trans ⟨rfl,rfl,rfl,Nat.le_refl _,λ_ _=>rfl⟩,.inl ⟨by rw [ah HAD],_,Aaa,rfl⟩⟩
 have Ew:=Hq (λw1=>isSomeAmount n true w1 (decide_eq_true hn));have hpo:=wP (l:=l) (key:=key) hok hkk;have u1:=rD hd1 hn;have u2:=rD hd2 hn;have u3:=rD hd3 hn;obtain⟨_,hpw,aws⟩:=(jJ l).1 hok;have HAI:=Hq (IY (key:=key) (dm:=dm) (df:=df) (ds:=ds) hok hn);have Vj:=Hq hks;cases hsp:gJ (eD (aG l key) dm df ds n)
 .have Vk:=Hq (λB mp mb n0 v w1 (h:PM w1 B mp mb n0 v (l.map (·.k)) (aG l)) (he1:iG w1 E)=>Js B mp mb n0 v l key dm df ds n E w1 hkey hpo u1 u2 u3 h he1 hsp)
  have HAD:Hid ((dx l key dm df ds n).2=false):=by
   rw [ah HAI,hsp];rfl
  clear ha he hks hok hb0 hd1 hd2 hd3 hkk hpo u1 u2 u3 hpw hsp HAI;open akP in exact arU
 .have Vk:=Hq (λB mp mb n0 v w1 (hB:B<=w1.heap.size) (hn0:n0 < maxLen) (h:PM w1 B mp mb n0 v (l.map (·.k)) (aG l)) (he1:iG w1 E)=>Mx B mp mb n0 v l key dm df ds n E w1 hB hkey hn0 aws hpw hpo u1 u2 u3 h he1 hsp);have hkp:(eD (aG l key) dm df ds n).k=key:=oq l key
  have VI:Hid (found l key=false->l.length=20->(dx l key dm df ds n).2=false):=by
   intro hf h20;have hlen:=uK (l:=l) (p:=eD (aG l key) dm df ds n) (by rw [hkp];exact hf);rw [ah HAI,hsp,decide_eq_false Aaa];rfl
  have Wj:Hid ((found l key=true\/l.length < 20)->dx l key dm df ds n=(iP l (eD (aG l key) dm df ds n),true)/\(iP l (eD (aG l key) dm df ds n)).length<=20):=by
   intro hf
   have hlen:(iP l (eD (aG l key) dm df ds n)).length<=20:=by
    cases hff:found l key
    .have:=uK (l:=l) (p:=eD (aG l key) dm df ds n) (by rw [hkp];exact hff);rcases hf with hf|hf
     .rw [hff] at hf;cases hf
     .omega
    .have:=qQ (l:=l) (p:=eD (aG l key) dm df ds n) (by rw [hkp];exact hff);omega
   rw [ah HAI,hsp,decide_eq_true hlen];exact⟨rfl,hlen⟩
  have KV:Hid (∀q∈iP l (eD (aG l key) dm df ds n),q.k.size<=1048576):=by
   intro q hq;rcases put_mem hq with rfl|hq
   .rw [hkp];exact hkey
   .exact Vj q hq
  have HPA:=Hq (agr hpw (eD (aG l key) dm df ds n));clear ha he hks hok hb0 hd1 hd2 hd3 hkk hpo u1 u2 u3 hpw hsp HAI hkp;generalize iP l (eD (aG l key) dm df ds n)=PL at *;generalize upd (aG l) (eD (aG l key) dm df ds n)=G2 at *;open akO in exact arU
theorem Mth.addP_no {l:List Pu} {key:ByteArray} {dm df ds n:Int} (h:(dx l key dm df ds n).2=false):(dx l key dm df ds n).1=l:=by
 exact aeH
def jD (w:World) (r:List Pu×Bool) (e:Ending) (w':World):Prop:=∃a c g,w.heap.size<=g/\e= .returned (.tuple #[.slice a r.1.length c,.bool r.2])/\vK w' a g r.1/\aX w w'
theorem xZ (a:Option Addr) (cap:Nat) (l:List Pu) (key:ByteArray) (dm df ds n:Int) (E:Nat->Addr) (w:World) (hl:l.length<=1048576) (hks:∀p∈l,p.k.size<=1048576) (hkey:key.size<=1048576)
 (hd1:dm= -1\/dm=0\/dm=1) (hd2:df= -1\/df=0\/df=1) (hd3:ds= -1\/ds=0\/ds=1) (ha:aH w a l) (he:iG w E):
 Calls Tryz.prog 186 #[.slice a l.length cap,.string key,.int .i64 n,shv dm df ds] w (jD w (dx l key dm df ds n)):=by
 have hb0:=dM w (.cells #[.int .i64 dm,.int .i64 df,.int .i64 ds] 220);have Vk:=Hq (Ug a cap l key dm df ds n E _ hl hks hkey hd1 hd2 hd3 (GR.At.below ha hb0) (he.below hb0));have HE:=Hq he;have Bf:=Hq (λw1 (hb:aX w w1)=>Mt a cap l w1 hl hks (GR.At.below ha hb));have jP:=Hq (addP_no (l:=l) (key:=key) (dm:=dm) (df:=df) (ds:=ds) (n:=n));clear ha he hks hb0 hd1 hd2 hd3;generalize dx l key dm df ds n=r at *;obtain⟨L,bo⟩:=r;dsimp only at Vk jP;unfold jD;go_enter Tryz.func186,Tryz.ntmps186
 go_wp2_with fail;refine Vk.mono ?_;rintro e w1 ⟨hb1,hcase⟩;have HB1:=Hq (Fo.one_block hb1).2.2;have HS:=Hq hb1.size;clear hb1 Vk;rcases hcase with⟨hno,i,hi,rfl⟩|⟨hyes,g,hg,rfl,hblk⟩
 .have hL:=ah jP hno;subst hno hL;have HIR:=Hq (JA (HE.below HB1) i hi);have HCX:=Hq (Bf _ HB1);clear Bf jP;go_wp2_with fail;refine HIR.mono ?_;rintro e w2 ⟨rfl,rfl⟩;go_wp2_with fail;refine HCX.mono ?_;rintro e w3 ⟨a3,c3,g3,hg3,rfl,hblk3,hb3⟩;have HK3:=Hq hblk3;have HB3:=Hq (HB1.trans (hb3.mono HB1.size));clear hblk3 hb3;go_wp2_with fail;go_ret2
  exact⟨_,_,g3,Nat.le_trans HB1.size hg3,rfl,HK3,HB3⟩
 .subst hyes;have HIR:=Hq (Fu (HE.below HB1));have HK:=Hq hblk;have hge:w.heap.size<=g:=by have:=ah HS;simp at hg;omega
  clear Bf jP hblk;go_wp2_with fail;refine HIR.mono ?_;rintro e w2 ⟨rfl,rfl⟩;go_wp2_with fail;go_ret2
  exact⟨_,_,g,hge,rfl,vK.of_blk HK,HB1⟩
theorem Yx (a:Option Addr) (cap:Nat) (l:List Pu) (key:ByteArray) (n:Int) (E:Nat->Addr) (w:World) (hl:l.length<=1048576) (hks:∀p∈l,p.k.size<=1048576) (hkey:key.size<=1048576) (ha:aH w a l) (he:iG w E):
 Calls Tryz.prog 163 #[.slice a l.length cap,.string key,.int .i64 n] w (jD w (dx l key (1) (1) (0) n)):=by
 have H:=Hq (xZ a cap l key (1) (1) (0) n E w hl hks hkey Aaa Aaa Aaa ha he);clear ha he hks;generalize dx l key (1) (1) (0) n=r at *;unfold jD at *;go_enter Tryz.func163,Tryz.ntmps163
 exact XA
theorem Yv (a:Option Addr) (cap:Nat) (l:List Pu) (key:ByteArray) (n:Int) (E:Nat->Addr) (w:World) (hl:l.length<=1048576) (hks:∀p∈l,p.k.size<=1048576) (hkey:key.size<=1048576) (ha:aH w a l) (he:iG w E):
 Calls Tryz.prog 232 #[.slice a l.length cap,.string key,.int .i64 n] w (jD w (dx l key (0) (1) (0) n)):=by
 have H:=Hq (xZ a cap l key (0) (1) (0) n E w hl hks hkey Aaa Aaa Aaa ha he);clear ha he hks;generalize dx l key (0) (1) (0) n=r at *;unfold jD at *;go_enter Tryz.func232,Tryz.ntmps232
 exact XA
theorem Yy (a:Option Addr) (cap:Nat) (l:List Pu) (key:ByteArray) (n:Int) (E:Nat->Addr) (w:World) (hl:l.length<=1048576) (hks:∀p∈l,p.k.size<=1048576) (hkey:key.size<=1048576) (ha:aH w a l) (he:iG w E):
 Calls Tryz.prog 191 #[.slice a l.length cap,.string key,.int .i64 n] w (jD w (dx l key (0) (-1) (0) n)):=by
 have H:=Hq (xZ a cap l key (0) (-1) (0) n E w hl hks hkey Aaa Aaa Aaa ha he);clear ha he hks;generalize dx l key (0) (-1) (0) n=r at *;unfold jD at *;go_enter Tryz.func191,Tryz.ntmps191
 exact XA
theorem Uj (a:Option Addr) (cap:Nat) (l:List Pu) (key:ByteArray) (n:Int) (E:Nat->Addr) (w:World) (hl:l.length<=1048576) (hks:∀p∈l,p.k.size<=1048576) (hkey:key.size<=1048576) (ha:aH w a l) (he:iG w E):
 Calls Tryz.prog 165 #[.slice a l.length cap,.string key,.int .i64 n] w (jD w (dx l key (0) (-1) (1) n)):=by
 have H:=Hq (xZ a cap l key (0) (-1) (1) n E w hl hks hkey Aaa Aaa Aaa ha he);clear ha he hks;generalize dx l key (0) (-1) (1) n=r at *;unfold jD at *;go_enter Tryz.func165,Tryz.ntmps165
 exact XA
theorem MJ (a:Option Addr) (cap:Nat) (l:List Pu) (key:ByteArray) (n:Int) (E:Nat->Addr) (w:World) (hl:l.length<=1048576) (hks:∀p∈l,p.k.size<=1048576) (hkey:key.size<=1048576) (ha:aH w a l) (he:iG w E):
 Calls Tryz.prog 167 #[.slice a l.length cap,.string key,.int .i64 n] w (jD w (dx l key (0) (1) (-1) n)):=by
 have H:=Hq (xZ a cap l key (0) (1) (-1) n E w hl hks hkey Aaa Aaa Aaa ha he);clear ha he hks;generalize dx l key (0) (1) (-1) n=r at *;unfold jD at *;go_enter Tryz.func167,Tryz.ntmps167
 exact XA
end Go.Proofs.YtacgbldlonoaaaaGreatDoor
