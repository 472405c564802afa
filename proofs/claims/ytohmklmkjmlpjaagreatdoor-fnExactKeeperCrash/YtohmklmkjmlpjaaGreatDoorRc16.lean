/- Parts. -/
import Derived.Test.YtohmklmkjmlpjaaGreatDoorRc13
namespace Go.Proofs.YtohmklmkjmlpjaaGreatDoor
open Go.Proofs.Tryz
set_option maxHeartbeats 4000000
set_option maxRecDepth 100000
open Go.RowKit
open Mth
variable (a:Option Addr) (cap:Nat) (l:List Pu) (key:ByteArray) (n:Int) (E:Nat->Addr) (w:World)
abbrev shv (dm df ds:Int):Value:= .agg #[.int .i64 dm,.int .i64 df,.int .i64 ds]
theorem Bc {w w1:World} {A B C:Obj} (hb:Below (((w.alloc A).alloc B).alloc C).heap.size (((w.alloc A).alloc B).alloc C) w1):
 w1.heap[w.heap.size]?=some A/\w1.heap[w.heap.size+1+1]?=some C/\aI w w1:=by
 have hs:(((w.alloc A).alloc B).alloc C).heap.size=w.heap.size+1+1+1:=Aac
 refine⟨?_,?_,((((aGs _ _).alloc (aGh _) _).alloc Aac _).alloc Aag _).trans (hb.mono Aaa)⟩
 .rw [hb.block _ Aaa,aGv _ _ _ Aag,aGv _ _ _ Aac];exact aGg w A
 .rw [hb.block _ Aaa];have h:=aGg ((w.alloc A).alloc B) C;rwa [show((w.alloc A).alloc B).heap.size=w.heap.size+1+1 by simp] at h
theorem MR (p:Pu) (dm df ds n:Int) (w:World) (hp:iI p=true) (h1:-1000000000<=dm*n/\dm*n<=1000000000) (h2:-1000000000<=df*n/\df*n<=1000000000) (h3:-1000000000<=ds*n/\ds*n<=1000000000) (hf:0<=p.f+df*n) (hs:0<=p.s+ds*n) (hok:iI (eZ p dm df ds n)=true):
 Calls prog 303 #[xW p,shv dm df ds,.int .i64 n] w (dZ w (.tuple #[xW (eZ p dm df ds n),.nilIface])):=by
 have HO:=Hq (λw1=>qp (eZ p dm df ds n) true w1 hok);open apk in exact akG
theorem Co (p:Pu) (dm df ds n:Int) (E:Nat->Addr) (w:World) (hp:iI p=true) (h1:-1000000000<=dm*n/\dm*n<=1000000000) (h2:-1000000000<=df*n/\df*n<=1000000000) (h3:-1000000000<=ds*n/\ds*n<=1000000000) (hf:0<=p.f+df*n) (hs:0<=p.s+ds*n) (hok:iI (eZ p dm df ds n)=false) (he:iK w E):
 Calls prog 303 #[xW p,shv dm df ds,.int .i64 n] w (dZ w (.tuple #[xW ⟨⟨#[]⟩,0,0,0⟩,uJ (E 5)])):=by
 have HO:=Hq (λw1=>qp (eZ p dm df ds n) false w1 hok);have HE:=Hq he;open apj in exact akG
theorem Ea (p:Pu) (dm df ds n:Int) (E:Nat->Addr) (w:World) (hp:iI p=true) (h1:-1000000000<=dm*n/\dm*n<=1000000000) (h2:-1000000000<=df*n/\df*n<=1000000000) (h3:-1000000000<=ds*n/\ds*n<=1000000000) (hf:p.f+df*n < 0\/0<=p.f+df*n/\p.s+ds*n < 0) (he:iK w E):
 Calls prog 303 #[xW p,shv dm df ds,.int .i64 n] w (dZ w (.tuple #[xW ⟨⟨#[]⟩,0,0,0⟩,uJ (E 4)])):=by
 have HE:=Hq he;have hve:4 < w.heap.size:=aHs _ _ (he.var 4 Aaa);open aph in exact akG
open Go.RowKit Go.Maps
theorem IZ (p:Pu) (dm df ds n:Int) (E:Nat->Addr) (w:World) (hp:iI p=true) (h1:-1000000000<=dm*n/\dm*n<=1000000000) (h2:-1000000000<=df*n/\df*n<=1000000000) (h3:-1000000000<=ds*n/\ds*n<=1000000000) (hok:iI (eZ p dm df ds n)=false) (he:iK w E):
 Calls prog 303 #[xW p,shv dm df ds,.int .i64 n] w λe w'=>∃i,(1<=i/\i < 6)/\e= .returned (.tuple #[xW ⟨⟨#[]⟩,0,0,0⟩,uJ (E i)])/\aI w w':=by
 by_cases hf:p.f+df*n < 0\/0<=p.f+df*n/\p.s+ds*n < 0
 .exact(Ea p dm df ds n E w hp h1 h2 h3 hf he).mono λe w' ⟨h,hb⟩=>⟨_,Aaa,h,hb⟩
 .exact(Co p dm df ds n E w hp h1 h2 h3 Aaa Aaa hok he).mono λe w' ⟨h,hb⟩=>⟨_,Aaa,h,hb⟩
theorem MJ (B mp mb n0:Nat) (v:Value) (l:List Pu) (key:ByteArray) (dm df ds n:Int) (E:Nat->Addr) (w:World) (hkey:key.size<=1048576) (hp:iI (aD l key)=true) (h1:-1000000000<=dm*n/\dm*n<=1000000000) (h2:-1000000000<=df*n/\df*n<=1000000000) (h3:-1000000000<=ds*n/\ds*n<=1000000000) (h:PM w B mp mb n0 v (l.map (·.k)) (aD l)) (he:iK w E) (hok:iI (eZ (aD l key) dm df ds n)=false):
 Calls prog 286 #[.pointer (some ⟨mp,0,none⟩),.string key,.int .i64 n,shv dm df ds] w λe w'=>∃i,(1<=i/\i < 6)/\e= .returned (uJ (E i))/\aI w w':=by
 have OC:=Hq (λw1 (hb:aI w w1)=>MH mp mb n0 v (aD l) key w1 hkey (h.below hb).blk (h.below hb).map);have HSH:=Hq (λw1 (hb:aI w w1)=>IZ (aD l key) dm df ds n E w1 hp h1 h2 h3 hok (he.below hb));clear h he hok hp h1 h2 h3;generalize aD l key=p at *;obtain⟨pk,pm,pf,ps⟩:=p;open aqa in exact ayw
theorem Qe (B mp mb n0:Nat) (v:Value) (l:List Pu) (key:ByteArray) (dm df ds n:Int) (E:Nat->Addr) (w:World) (hB:B<=w.heap.size) (hkey:key.size<=1048576) (hn0:n0 < maxLen) (hl:l.length<=20) (hpw:l.Pairwise M4) (hp:iI (aD l key)=true) (h1:-1000000000<=dm*n/\dm*n<=1000000000) (h2:-1000000000<=df*n/\df*n<=1000000000) (h3:-1000000000<=ds*n/\ds*n<=1000000000) (h:PM w B mp mb n0 v (l.map (·.k)) (aD l)) (he:iK w E) (hok:iI (eZ (aD l key) dm df ds n)=true):
 Calls prog 286 #[.pointer (some ⟨mp,0,none⟩),.string key,.int .i64 n,shv dm df ds] w λe w'=>Below B w w'/\
  ((found l key=false/\l.length=20/\e= .returned (uJ (E 5)))\/
   ((found l key=true\/l.length < 20)/\e= .returned .nilIface/\∃v',PM w' B mp mb (n0+1) v' ((jr l (eZ (aD l key) dm df ds n)).map (·.k)) (upd (aD l) (eZ (aD l key) dm df ds n)))):=by
 have hpos:iI (eZ (aD l key) dm df ds n)=true:=hok
 have hff:0<=(aD l key).f+df*n/\0<=(aD l key).s+ds*n:=by
  unfold iI at hpos;simp only[aGl] at hpos;have b2:0<=(aD l key).f+df*n/\(aD l key).f+df*n<=1000000000:=aGw hpos.1.1.2;have b3:0<=(aD l key).s+ds*n/\(aD l key).s+ds*n<=1000000000:=aGw hpos.1.2;exact⟨b2.1,b3.1⟩
 have OC:=Hq (λw1 (hb:aI w w1)=>MH mp mb n0 v (aD l) key w1 hkey (h.below hb).blk (h.below hb).map);have HSH:=Hq (λw1 (hb:aI w w1)=>MR (aD l key) dm df ds n w1 hp h1 h2 h3 hff.1 hff.2 hok);have aek:=Hq (λw1 (hb:aI w w1)=>Ur B mp mb n0 v l (aD l) key E w1 hpw hl (aGm hB hb.size) (h.below hb) (he.below hb));have HPM:=Hq (λw1 (hb:aI w w1)=>h.below hb);have hpk:(eZ (aD l key) dm df ds n).k=key:=qx l key;have uy:=Hq (λhf=>(wQ (l:=l) (p:=eZ (aD l key) dm df ds n) hf).symm);have HKN:=Hq (λhf=>(Np (l:=l) (p:=eZ (aD l key) dm df ds n) hf).symm);rw [hpk] at uy HKN;have hkk:(aD l key).k=key:=qx l key;clear h he hok hp h1 h2 h3 hpos hff hpw;unfold eZ at *;generalize jr l ⟨(aD l key).k,(aD l key).m+dm*n,(aD l key).f+df*n,(aD l key).s+ds*n⟩=PL at *;generalize hG:aD l=G at *;generalize G key=p at *;obtain⟨pk,pm,pf,ps⟩:=p;dsimp only at *;subst hkk;generalize pm+dm*n=qm at *;generalize pf+df*n=qf at *;generalize ps+ds*n=qs at *;clear hG hpk;open ap9 in exact ayw
namespace Mth
theorem aea {l:List Pu} (hp:l.Pairwise M4) (k:Nat) (hk:k < l.length):upd (aD (l.take k)) l[k]=aD (l.take (k+1)):=by
 funext key
 have hsub:(l.take (k+1)).Pairwise M4:=hp.sublist (List.take_sublist _ _);unfold upd;by_cases e:key=l[k].k
 .rw [aGC e,e];exact(rO hsub (List.mem_take_iff_getElem.2 ⟨k,Aaa,rfl⟩)).symm
 .rw [aGr e];unfold aD;rw [aGt hk,List.find?_append]
  have:[l[k]].find? (λp=>p.k.toList == key.toList)=none:=by
   rw [List.find?_eq_none];intro q hq;rw [aGA] at hq;subst hq;simp only[beq_iff_eq];exact λe'=>e (toList_inj e').symm
  rw [this];simp
end Mth
theorem afE:(Tryz.prog.info? 9).map (λi=>(i.zero,i.size,i.bytes))=some (some (.string ⟨#[]⟩),1,16):=Aab
theorem MI (a:Option Addr) (cap:Nat) (l:List Pu) (E:Nat->Addr) (w:World) (hl:l.length<=1048600) (ha:aH w a l) (he:iK w E) (hno:jD l=false):
 Calls Tryz.prog 285 #[.slice a l.length cap] w (dZ w (.tuple #[.pointer none,uJ (E 3)])):=by
 have oN:=Hq (uQ a cap l w hl ha);have HE:=Hq he;clear ha he;go_in
 go_wp2_with fail;refine oN.mono ?_;rintro e w1 ⟨rfl,hb1⟩;rw [hno];have ve:=(HE.below hb1).var 3 Aaa;have HB:=Hq hb1;clear hb1 oN;go_wp2_with fail;go_quiet (fail);go_wp2_with fail;go_ret2
 exact⟨rfl,HB.trans ⟨rfl,rfl,rfl,aGh _,λ_ _=>rfl⟩⟩
theorem IK (a:Option Addr) (cap:Nat) (l:List Pu) (w:World) (ha:aH w a l) (hks:∀p∈l,p.k.size<=1048576) (hok:jD l=true):
 Calls Tryz.prog 285 #[.slice a l.length cap] w λe w'=>∃mp mb v,e= .returned (.tuple #[.pointer (some ⟨mp,0,none⟩),.nilIface])/\PM w' w.heap.size mp mb l.length v (l.map (·.k)) (aD l)/\aI w w':=by
 obtain⟨hpu,hpw,hl⟩:=(kQ l).1 hok;have H6:=Hq hpw;have oN:=Hq (uQ a cap l w Aaa ha);have HA:=Hq ha;obtain⟨i0,hi,hz0,hz1,hz2⟩:=aGV afE;have SI:=Hq hks;have hmm:= @run_makeMap Tryz.prog;clear ha hpw hpu hks;go_in
 go_wp2_with fail;refine oN.mono ?_;rintro e w1 ⟨rfl,hb1⟩;rw [hok];have HB1:=Hq hb1;have hw1:=hb1.size;clear hb1 oN hok;go_wp2_with fail;go_loopw [16] (λi wr=>∃(k:Nat) (aa:Option Addr) (cc:Nat),k<=l.length/\i= .int .i64 k/\PM wr w.heap.size (w1.heap.size+1) w1.heap.size k (.slice aa k cc) ((l.take k).map (·.k)) (aD (l.take k))/\aI w wr) (λi _=>l.length - (intOf i).toNat)
 case atStart=>
  refine⟨0,none,0,aGB _,rfl,⟨?_,?_,?_,Aaa,Aaa⟩,(HB1.alloc Aaa _).alloc Aag _⟩
  .have:=aGg (w1.alloc (.map #[] 0)) (.cells #[.slice none 0 0,.map (some w1.heap.size)] 352);rwa [show(w1.alloc (Obj.map #[] 0)).heap.size=w1.heap.size+1 by simp] at this
  .exact World.ownsRow_nil _ _ _ _
  .exact(iV.made w1).kept (aGv _ _ _ Aac)
 case round=>
  obtain⟨k,aa,cc,hk,rfl,H7,hbel⟩:=hrel;have HP:=Hq H7;have dS:=Hq hbel;have hwr:=hbel.size;clear H7 hbel;by_cases hlt:k < l.length
  .obtain⟨g,off,rfl,hgw,c0,c1,c2,c3⟩:=aH.four (GR.At.below HA dS) k hlt;have HUP:=Hq (aea H6 k hlt);have OV:=Hq (aGt hlt);have hkk:=ah SI l[k] (aGz hlt);generalize l[k]=pu at *;obtain⟨pk,pm,pf,ps⟩:=pu;dsimp only at c0 c1 c2 c3 hkk;go_upto_region 7 with fail;refine Fo.wp_at (λV hV=>?_);have hbV:aI wr V:=by rw [hV];exact dY wr _
   open awk in exact ahB
  .open aod in exact vT
theorem YD (a:Option Addr) (cap:Nat) (l:List Pu) (key:ByteArray) (dm df ds n:Int) (E:Nat->Addr) (w:World) (hl:l.length<=1048576) (hks:∀p∈l,p.k.size<=1048576) (hkey:key.size<=1048576) (hd1:dm= -1\/dm=0\/dm=1) (hd2:df= -1\/df=0\/df=1) (hd3:ds= -1\/ds=0\/ds=1) (ha:aH w a l) (he:iK w E):
 Calls Tryz.prog 260 #[.slice a l.length cap,.string key,.int .i64 n,shv dm df ds] w λe w'=>aI w w'/\
  (((dK l key dm df ds n).2=false/\∃i,(1<=i/\i < 6)/\e= .returned (.tuple #[.slice none 0 0,uJ (E i)]))\/
   ((dK l key dm df ds n).2=true/\∃g,w.heap.size<=g/\e= .returned (.tuple #[.slice (some ⟨g,0,none⟩) (dK l key dm df ds n).1.length (dK l key dm df ds n).1.length,.nilIface])/\tK w' g (dK l key dm df ds n).1)):=by
 have hb0:=dY w (.cells #[.int .i64 dm,.int .i64 df,.int .i64 ds] 258);cases hok:jD l
 .have mZ:=Hq (MI a cap l E _ Aaa (GR.At.below ha hb0) (he.below hb0) hok);have HAD:=Hq (JY (key:=key) (dm:=dm) (df:=df) (ds:=ds) (n:=n) hok);clear ha he hks hok hb0 hd1 hd2 hd3;go_in
  go_wp2_with fail;refine mZ.mono ?_;rintro e w1 ⟨rfl,hb1⟩;have HB1:=Hq (Fo.one_block hb1).2.2;clear hb1;go_wp2_with fail;go_ret2
  exact⟨HB1,.inl ⟨by rw [ah HAD],_,Aaa,rfl⟩⟩
 have HOF:=Hq (IK a cap l _ (GR.At.below ha hb0) hks hok);have HE:=Hq he;cases hkk:keyOk key.data.toList
 .have HK:=Hq (λw1=>Ag key false w1 hkk)
  have HAD:Hid ((dK l key dm df ds n).2=false):=by
   by_cases hn:1<=n/\n<=1000000000
   .rw [LQ hok hn,Zw hkk];rfl
   .rw [LV hn];exact Hq rfl
  open awL in exact ahK
 have HK:=Hq (λw1=>Ag key true w1 hkk);by_cases hn:1<=n/\n<=1000000000
 case' neg=>
  have HAD:=Hq (LV (l:=l) (key:=key) (dm:=dm) (df:=df) (ds:=ds) hn)
  have Hr:=Hq (λw1=>aQ n false w1 (aGi hn))
  open awK in exact ahK
 have Hr:=Hq (λw1=>aQ n true w1 (aGk hn));have hpo:=yZ (l:=l) (key:=key) hok hkk;have u1:=um hd1 hn;have u2:=um hd2 hn;have u3:=um hd3 hn;obtain⟨_,hpw,aD0⟩:=(kQ l).1 hok;have HAI:=Hq (LQ (key:=key) (dm:=dm) (df:=df) (ds:=ds) hok hn);have SI:=Hq hks;cases hsp:iI (eZ (aD l key) dm df ds n)
 .have HMV:=Hq (λB mp mb n0 v w1 (h:PM w1 B mp mb n0 v (l.map (·.k)) (aD l)) (he1:iK w1 E)=>MJ B mp mb n0 v l key dm df ds n E w1 hkey hpo u1 u2 u3 h he1 hsp)
  have HAD:Hid ((dK l key dm df ds n).2=false):=by
   rw [ah HAI,hsp];rfl
  clear ha he hks hok hb0 hd1 hd2 hd3 hkk hpo u1 u2 u3 hpw hsp HAI;open aqP in exact ayF
 .have HMV:=Hq (λB mp mb n0 v w1 (hB:B<=w1.heap.size) (hn0:n0 < maxLen) (h:PM w1 B mp mb n0 v (l.map (·.k)) (aD l)) (he1:iK w1 E)=>Qe B mp mb n0 v l key dm df ds n E w1 hB hkey hn0 aD0 hpw hpo u1 u2 u3 h he1 hsp);have hkp:(eZ (aD l key) dm df ds n).k=key:=qx l key
  have aah:Hid (found l key=false->l.length=20->(dK l key dm df ds n).2=false):=by
   intro hf h20;have hlen:=wR (l:=l) (p:=eZ (aD l key) dm df ds n) (by rw [hkp];exact hf);rw [ah HAI,hsp,aGi Aaa];rfl
  have aaq:Hid ((found l key=true\/l.length < 20)->dK l key dm df ds n=(jr l (eZ (aD l key) dm df ds n),true)/\(jr l (eZ (aD l key) dm df ds n)).length<=20):=by
   intro hf
   have hlen:(jr l (eZ (aD l key) dm df ds n)).length<=20:=by
    cases hff:found l key
    .have:=wR (l:=l) (p:=eZ (aD l key) dm df ds n) (by rw [hkp];exact hff);rcases hf with hf|hf
     .rw [hff] at hf;cases hf
     .omega
    .have:=tL (l:=l) (p:=eZ (aD l key) dm df ds n) (by rw [hkp];exact hff);omega
   rw [ah HAI,hsp,aGk hlen];exact⟨rfl,hlen⟩
  have Sr:Hid (∀q∈jr l (eZ (aD l key) dm df ds n),q.k.size<=1048576):=by
   intro q hq;rcases put_mem hq with rfl|hq
   .rw [hkp];exact hkey
   .exact SI q hq
  have Ik:=Hq (al3 hpw (eZ (aD l key) dm df ds n));clear ha he hks hok hb0 hd1 hd2 hd3 hkk hpo u1 u2 u3 hpw hsp HAI hkp;generalize jr l (eZ (aD l key) dm df ds n)=PL at *;generalize upd (aD l) (eZ (aD l key) dm df ds n)=G2 at *;open aqO in exact ayF
theorem Mth.addP_no {l:List Pu} {key:ByteArray} {dm df ds n:Int} (h:(dK l key dm df ds n).2=false):(dK l key dm df ds n).1=l:=by
 exact ajT
def kH (w:World) (r:List Pu×Bool) (e:Ending) (w':World):Prop:=∃a c g,w.heap.size<=g/\e= .returned (.tuple #[.slice a r.1.length c,.bool r.2])/\xP w' a g r.1/\aI w w'
theorem Ah (a:Option Addr) (cap:Nat) (l:List Pu) (key:ByteArray) (dm df ds n:Int) (E:Nat->Addr) (w:World) (hl:l.length<=1048576) (hks:∀p∈l,p.k.size<=1048576) (hkey:key.size<=1048576) (hd1:dm= -1\/dm=0\/dm=1) (hd2:df= -1\/df=0\/df=1) (hd3:ds= -1\/ds=0\/ds=1) (ha:aH w a l) (he:iK w E):
 Calls Tryz.prog 235 #[.slice a l.length cap,.string key,.int .i64 n,shv dm df ds] w (kH w (dK l key dm df ds n)):=by
 have hb0:=dY w (.cells #[.int .i64 dm,.int .i64 df,.int .i64 ds] 258);have HMV:=Hq (YD a cap l key dm df ds n E _ hl hks hkey hd1 hd2 hd3 (GR.At.below ha hb0) (he.below hb0));have HE:=Hq he;have Oj:=Hq (λw1 (hb:aI w w1)=>P9 a cap l w1 hl hks (GR.At.below ha hb));have mZ:=Hq (addP_no (l:=l) (key:=key) (dm:=dm) (df:=df) (ds:=ds) (n:=n));clear ha he hks hb0 hd1 hd2 hd3;generalize dK l key dm df ds n=r at *;obtain⟨L,bo⟩:=r;dsimp only at HMV mZ;unfold kH;go_in
 go_wp2_with fail;refine HMV.mono ?_;rintro e w1 ⟨hb1,hcase⟩;have HB1:=Hq (Fo.one_block hb1).2.2;have HS:=Hq hb1.size;clear hb1 HMV;rcases hcase with⟨hno,i,hi,rfl⟩|⟨hyes,g,hg,rfl,hblk⟩
 .have hL:=ah mZ hno;subst hno hL;have HIR:=Hq (MZ (HE.below HB1) i hi);have HCX:=Hq (Oj _ HB1);clear Oj mZ;go_wp2_with fail;refine HIR.mono ?_;rintro e w2 ⟨rfl,rfl⟩;go_wp2_with fail;refine HCX.mono ?_;rintro e w3 ⟨a3,c3,g3,hg3,rfl,hblk3,hb3⟩;have JE:=Hq hblk3;have HB3:=Hq (HB1.trans (hb3.mono HB1.size));clear hblk3 hb3;go_wp2_with fail;go_ret2
  exact⟨_,_,g3,aGm HB1.size hg3,rfl,JE,HB3⟩
 .subst hyes;have HIR:=Hq (I7 (HE.below HB1));have HK:=Hq hblk;have hge:w.heap.size<=g:=by have:=ah HS;simp at hg;omega
  clear Oj mZ hblk;go_wp2_with fail;refine HIR.mono ?_;rintro e w2 ⟨rfl,rfl⟩;go_wp2_with fail;go_ret2
  exact⟨_,_,g,hge,rfl,xP.of_blk HK,HB1⟩
theorem acO (hl:l.length<=1048576) (hks:∀p∈l,p.k.size<=1048576) (hkey:key.size<=1048576) (ha:aH w a l) (he:iK w E):
 Calls Tryz.prog 210 #[.slice a l.length cap,.string key,.int .i64 n] w (kH w (dK l key (1) (1) (0) n)):=by
 have H:=Hq (Ah a cap l key (1) (1) (0) n E w hl hks hkey Aaa Aaa Aaa ha he);clear ha he hks;generalize dK l key (1) (1) (0) n=r at *;unfold kH at *;go_in
 exact abC
theorem acL (hl:l.length<=1048576) (hks:∀p∈l,p.k.size<=1048576) (hkey:key.size<=1048576) (ha:aH w a l) (he:iK w E):
 Calls Tryz.prog 267 #[.slice a l.length cap,.string key,.int .i64 n] w (kH w (dK l key (0) (1) (0) n)):=by
 have H:=Hq (Ah a cap l key (0) (1) (0) n E w hl hks hkey Aaa Aaa Aaa ha he);clear ha he hks;generalize dK l key (0) (1) (0) n=r at *;unfold kH at *;go_in
 exact abC
theorem acP (hl:l.length<=1048576) (hks:∀p∈l,p.k.size<=1048576) (hkey:key.size<=1048576) (ha:aH w a l) (he:iK w E):
 Calls Tryz.prog 241 #[.slice a l.length cap,.string key,.int .i64 n] w (kH w (dK l key (0) (-1) (0) n)):=by
 have H:=Hq (Ah a cap l key (0) (-1) (0) n E w hl hks hkey Aaa Aaa Aaa ha he);clear ha he hks;generalize dK l key (0) (-1) (0) n=r at *;unfold kH at *;go_in
 exact abC
theorem YH (hl:l.length<=1048576) (hks:∀p∈l,p.k.size<=1048576) (hkey:key.size<=1048576) (ha:aH w a l) (he:iK w E):
 Calls Tryz.prog 212 #[.slice a l.length cap,.string key,.int .i64 n] w (kH w (dK l key (0) (-1) (1) n)):=by
 have H:=Hq (Ah a cap l key (0) (-1) (1) n E w hl hks hkey Aaa Aaa Aaa ha he);clear ha he hks;generalize dK l key (0) (-1) (1) n=r at *;unfold kH at *;go_in
 exact abC
theorem Qk (hl:l.length<=1048576) (hks:∀p∈l,p.k.size<=1048576) (hkey:key.size<=1048576) (ha:aH w a l) (he:iK w E):
 Calls Tryz.prog 214 #[.slice a l.length cap,.string key,.int .i64 n] w (kH w (dK l key (0) (1) (-1) n)):=by
 have H:=Hq (Ah a cap l key (0) (1) (-1) n E w hl hks hkey Aaa Aaa Aaa ha he);clear ha he hks;generalize dK l key (0) (1) (-1) n=r at *;unfold kH at *;go_in
 exact abC
theorem VI {w:World} {b off:Nat} {l:List Pu} (h:aH w (some ⟨b,off,none⟩) l) (k:Nat):aH w (some ⟨b,off+k*4,none⟩) (l.drop k):=λi hi=>by
 have hi':k+i < l.length:=Abu
 obtain⟨g,o,e,hg,hc⟩:=h (k+i) hi';injection e with e
 injection e with e1 e2
 subst e1 e2;refine⟨b,off+k*4,rfl,hg,λj hj=>?_⟩;have:=hc j hj;rw [show off+k*4+(i*4+j)=off+((k+i)*4+j) by omega,this];simp
theorem aej {w:World} {a:Option Addr} {l:List Pu} (h:aH w a l) (k:Nat):aH w a (l.take k):=λi hi=>by
 have hi':i < l.length:=Abu
 obtain⟨g,o,e,hg,hc⟩:=h i hi';refine⟨g,o,e,hg,λj hj=>?_⟩;rw [hc j hj];simp
theorem VJ {w:World} {a:Option Addr} {l:List Pu} (h:l=[]):aH w a l:=λi hi=>by rw [h] at hi;simp at hi
theorem Mth.tail_found {l:List Pu} {k:ByteArray} (h:found l k=true):place l k < l.length/\lD l k=l.drop (place l k+1):=by
 have hpl:=mO l k;by_cases hlt:place l k < l.length
 .refine⟨hlt,?_⟩;unfold found at h;unfold lD;rw [jQ,aG1 hlt] at h ⊢;dsimp only at h ⊢;rw [aGC h]
 .unfold found at h;rw [jQ,aHA Aaa] at h;cases h
theorem Mth.tail_not {l:List Pu} {k:ByteArray} (h:found l k=false):lD l k=l.drop (place l k):=by
 unfold found at h;unfold lD;rw [jQ] at h ⊢;cases hd:l.drop (place l k) with
 |nil=>rfl
 |cons q r=>
  rw [hd] at h;dsimp only at h ⊢;rw [h];rfl
theorem Mth.put_flat (l:List Pu) (p:Pu):GR.flat fD (l.take (place l p.k))++fD p++GR.flat fD (lD l p.k)=GR.flat fD (jr l p)/\place l p.k+1+(lD l p.k).length=(jr l p).length:=by
 have hpl:=mO l p.k;unfold jr;rw [head_take];constructor
 .rw [GR.flat_append,GR.flat_cons,aGN]
 .simp;omega
theorem Mth.put_mem' {l:List Pu} {p q:Pu} (h:q∈jr l p):q=p\/q∈l:=by
 exact aiq
theorem Mth.tail_len (l:List Pu) (k:ByteArray):(lD l k).length<=l.length:=by
 cases h:found l k
 .rw [tail_not h];simp
 .rw [(tail_found h).2];simp
theorem pE {P:Program} (w:World) {ops:Array Oper} {o:Oper} {a:Act} {K:Act->World->Prop} {Q:Exit->Act->World->Prop} {E:Prop} (hgd:o.guard=none) (s x:Operand) (t:TypeId)
 (ho:o.op= .call {callee:= .builtin .append,args:=#[s,x],argTypes:=#[t,t]})
 (base:Nat) (e:TypeId) (i:TypeInfo) (z:Value) (size bytes:Nat) (ht:P.underlying t=some (.slice e)) (hi:P.info? e=some i) (hz:i.zero=some z)
 (hsize:i.size=size) (hby:i.bytes=bytes) (hzs:z.cells.size=size) (hsz:0 < size)
 (v:Value) (n:Nat) (xs:List Value) (hs:a.eval s=v) (hown:w.ownsRow base e size v n xs)
 (ad:Addr) (m c:Nat) (news:List Value) (hx:a.eval x= .slice (some ad) m c) (hl:news.length=m*size) (hnews:∀j u,news[j]?=some u->w.cell? (ad.add j)=some u) (h1:∀u∈news,u.oneCell'=true)
 (h63:n+m<=maxLen) (hbytes:(n+m)*bytes<=140737488355328) (hbase:base<=w.heap.size)
 (h:∀v' w',w'.ownsRow base e size v' (n+m) (xs++news)->w.grownBy w' v.ownBlock->(v'= .slice none 0 0↔v= .slice none 0 0/\m=0)->K (a.put o.dst v') w'):
 if Region.wanted o (yielded ops a.tmps)=true then Oper.wp P o a w K Q else E:=by
 exact ain
theorem uN {w w':World} {B:Nat} {row:Option Nat} (hk:w.grownBy w' row) (hg:∀k,row=some k->B<=k) (hB:B<=w.heap.size):Below B w w':=⟨hk.os,hk.tape,hk.output,hk.size,λk hl=>hk.block k Aaa (λe=>by have:=hg k e.symm;omega)⟩
theorem J4 (p:Pu):∀u∈fD p,u.oneCell'=true:=by
 intro u hu;simp only[fD,aGF,aHx,or_false] at hu;rcases hu with rfl|rfl|rfl|rfl<;>rfl
theorem adz (v:Value):v.ownBlock=none\/v.ownBlock≠none:=by
 exact ajI
theorem BR (w:World) (a b:Nat):(w.drewN a).drewN b=w.drewN (a+b):=by
 simp[World.drewN,aGI]
theorem Mth.place_at (l:List Pu) (key:ByteArray) (k:Nat) (hk:k<=l.length) (h1:∀q∈l.take k,Op.bytesLess q.k.toList key.toList=true) (h2:∀h:k < l.length,Op.bytesLess l[k].k.toList key.toList=false):place l key=k/\lJ l key=l.drop k:=by
 obtain⟨e1,e2⟩:=aeb (λq=>Op.bytesLess q.k.toList key.toList) l k hk h1 h2;unfold place sW lJ;rw [e1,e2];exact⟨Aag,rfl⟩
theorem UF (b off:Nat) (cap:Nat) (l:List Pu) (p:Pu) (n:Int) (w:World) (hcap:l.length<=cap) (hk:∀p∈l,p.k.size<=maxLen) (hpk:p.k.size<=maxLen) (ha:aH w (some ⟨b,off,none⟩) l) (hok:jD l=true) (hn:1<=n/\n<=1000000000):
 Calls Tryz.prog 182 #[.slice (some ⟨b,off,none⟩) l.length cap,xW p,.int .i64 n] w λe w'=>∃v,e= .returned (.tuple #[v,.bool (rR l p n).2])/\v≠ .slice none 0 0/\w'.ownsRow w.heap.size 108 4 v (rR l p n).1.length (GR.flat fD (rR l p n).1)/\aI w w':=by
 have hl:l.length<=20:=((kQ l).1 hok).2.2;have oN:=Hq (λw1 (h:aH w1 (some ⟨b,off,none⟩) l)=>qc (some ⟨b,off,none⟩) cap l w1 Aaa hk h);have HA:=Hq ha;have hn2:decide (yI n 1 1000000000)=true:=aGk hn;have HW:=Hq (show rR l p n=if jD (jr l p) then(jr l p,true) else(l,false) by unfold rR;rw [hok,aGk hn];rfl);clear ha hn;obtain⟨pk,pm,pf,ps⟩:=p;go_in
 go_wp2_with fail;refine(oN _ (GR.At.below HA (dY w _))).mono ?_;rintro e w1 ⟨rfl,hb1⟩;have yg:=Hq (show w1.heap[w.heap.size]?=some (.cells (jh pk pm pf ps) 108 (0,0)) by rw [hb1.block w.heap.size Aac];exact aGg w _);have HB1:=Hq ((dY w _).trans (hb1.mono (dY w _).size))
 have hbw:b < w1.heap.size\/l.length=0:=by
  rcases Nat.eq_zero_or_pos l.length with h|h
  .exact .inr h
  .obtain⟨g,o,e,hg,_⟩:=ah HA 0 h;injection e with e
   injection e with e1 e2
   subst e1;exact .inl (aGq hg HB1.size)
 clear hb1;rw [hok];clear hok;go_wp2_with fail;refine(UD _ _ _ _).mono ?_;rintro e w3 ⟨rfl,rfl⟩;rw [hn2];go_upto_block 0 with fail;go_cut [8] (λi wx=>i= .int .i64 (place l pk:Nat)/\∃q,wx=w1.drewN q)
 case first=>
  go_wp2_with fail;go_loopw [8] (λi wr=>∃k q:Nat,k<=l.length/\i= .int .i64 k/\(∀x∈l.take k,Op.bytesLess x.k.toList pk.toList=true)/\wr=w1.drewN q) (λi _=>l.length - (intOf i).toNat)
  case atStart=>exact⟨0,0,aGB _,rfl,λx hx=>Abg,rfl⟩
  case round=>
   obtain⟨k,q,hk1,rfl,hall,rfl⟩:=hrel;have jG:=Hq hall;clear hall;open atO in exact ag1
 case rest=>
  obtain⟨rfl,q,rfl⟩:=hcut;have hpl:=mO l pk
  obtain⟨ad,hAd,hAe⟩:∃ad:Addr,(if cap=place l pk then some (⟨b,off,none⟩:Addr) else some ⟨b,off+place l pk*4,none⟩)=some ad/\(place l pk < l.length->ad=⟨b,off+place l pk*4,none⟩):=by
   by_cases h:cap=place l pk
   .rw [aGC h];exact⟨_,rfl,λh2=>Aaa⟩
   .rw [aGr h];exact⟨_,rfl,λ_=>rfl⟩
  open atN in exact ag1
def jm (w:World) (r:List Pu×Bool) (e:Ending) (w':World):Prop:=∃v,e= .returned (.tuple #[v,.bool r.2])/\v≠ .slice none 0 0/\w'.ownsRow w.heap.size 108 4 v r.1.length (GR.flat fD r.1)/\aI w w'
theorem Mth.purseOf_am {l:List Pu} {key:ByteArray} (h:jD l=true):(0<=(aD l key).m/\(aD l key).m<=1000000000)/\(0<=(aD l key).f/\(aD l key).f<=1000000000)/\(0<=(aD l key).s/\(aD l key).s<=1000000000):=by
 obtain⟨h1,_,_⟩:=(kQ l).1 h;unfold aD;cases hf:l.find? (λp=>p.k.toList == key.toList) with
 |none=>simp
 |some q=>
  have hq:=h1 q (List.mem_of_find?_eq_some hf);unfold iI at hq;simp only[aGl] at hq;exact⟨aGw hq.1.1.1.2,aGw hq.1.1.2,aGw hq.1.2⟩
theorem F5 (b off cap:Nat) (l:List Pu) (key:ByteArray) (dm df ds n:Int) (w:World) (hl:l.length<=1048600) (hcap:l.length<=cap) (hk:∀p∈l,p.k.size<=1048576) (hkey:key.size<=1048576) (hd1:dm= -1\/dm=0\/dm=1) (hd2:df= -1\/df=0\/df=1) (hd3:ds= -1\/ds=0\/ds=1) (ha:aH w (some ⟨b,off,none⟩) l):
 Calls Tryz.prog 145 #[.slice (some ⟨b,off,none⟩) l.length cap,.string key,.int .i64 dm,.int .i64 df,.int .i64 ds,.int .i64 n] w (jm w (dK l key dm df ds n)):=by
 have hkm:∀p∈l,p.k.size<=maxLen:=λp hp=>by have:=hk p hp;unfold maxLen;omega
 have JQ:=Hq (wS (some ⟨b,off,none⟩) cap l key w hl ha);have HA:=Hq ha;unfold jm;by_cases hin:jD l=true/\1<=n/\n<=1000000000
 .obtain⟨hok,hn1,hn2⟩:=hin;obtain⟨⟨m0,m1⟩,⟨f0,f1⟩,s0,s1⟩:=purseOf_am (key:=key) hok;obtain⟨u10,u11⟩:=um hd1 ⟨hn1,hn2⟩;obtain⟨u20,u21⟩:=um hd2 ⟨hn1,hn2⟩;obtain⟨u30,u31⟩:=um hd3 ⟨hn1,hn2⟩;have hpk:=qx l key;have HWI:=Hq (λw1 (hb:aI w w1)=>UF b off cap l (eZ (aD l key) dm df ds n) n w1 hcap hkm (by show(aD l key).k.size<=maxLen;rw [hpk];unfold maxLen;omega) (GR.At.below ha hb) hok ⟨hn1,hn2⟩);have hAm:decide (yI n 0 1000000000)=true:=aGk ⟨Aaa,hn2⟩;unfold dK;clear ha hok hk hkm hd1 hd2 hd3;unfold eZ at *;generalize aD l key=p at *;obtain⟨pk,pm,pf,ps⟩:=p;dsimp only at *;subst hpk;generalize rR l ⟨pk,pm+dm*n,pf+df*n,ps+ds*n⟩ n=r at *;go_in
  go_wp2_with fail;refine JQ.mono ?_;rintro e w1 ⟨rfl,hb1⟩;have HB1:=Hq hb1;clear hb1 JQ;go_wp2_with (go_at_call 50;refine(xC _ _).mono ?_;rintro e w2 ⟨rfl,rfl⟩;rw [hAm])
  refine(HWI _ (HB1.alloc HB1.size _)).mono ?_;rintro e w3 ⟨v,rfl,hv,hown,hb3⟩;have HB3:=Hq ((HB1.alloc HB1.size _).trans (hb3.mono (by have:=HB1.size;simp;omega)));have EO:=Hq (own_lower (b':=w.heap.size) hown (by have:=HB1.size;simp;omega));have HV:=Hq hv;clear hb3 hown hv;go_wp2_with fail;exact aGn (v:= .tuple #[v,.bool r.2]) (by simp[results,Tryz.results145,go_sem]) rfl ⟨v,rfl,HV,EO,HB3⟩
 .have hno:jD l=false\/¬(1<=n/\n<=1000000000):=by
   cases h:jD l
   .exact .inl rfl
   .exact .inr (λhn=>hin ⟨h,hn⟩)
  have HAD:=Hq (show dK l key dm df ds n=(l,false) by
   rcases hno with h|h
   .exact JY h
   .exact LV h)
  have HWN:=Hq (λp w1 (hb:aI w w1)=>Qw (some ⟨b,off,none⟩) cap l p n w1 hl hkm (λh=>Aat) (GR.At.below ha hb) hno);rw [ah HAD];clear ha hin hno hk hkm hd1 hd2 hd3 HAD;generalize aD l key=p at *;obtain⟨pk,pm,pf,ps⟩:=p;cases hAm:decide (yI n 0 1000000000)
  all_goals
   go_in
   go_wp2_with fail
   refine JQ.mono ?_
   rintro e w1 ⟨rfl,hb1⟩
   have HB1:=Hq hb1
   clear hb1 JQ
   go_wp2_with (go_at_call 50;refine(xC _ _).mono ?_;rintro e w2 ⟨rfl,rfl⟩;rw [hAm])
   refine(HWN ⟨_,_,_,_⟩ _ (HB1.alloc HB1.size _)).mono ?_
   rintro e w3 ⟨v,rfl,hv,hown,hb3⟩
   have HB3:=Hq ((HB1.alloc HB1.size _).trans (hb3.mono (by have:=HB1.size;simp;omega)))
   have EO:=Hq (own_lower (b':=w.heap.size) hown (by have:=HB1.size;simp;omega))
   have HV:=Hq hv
   clear hb3 hown hv
   go_wp2_with fail
   exact aGn (v:= .tuple #[v,.bool false]) (by simp[results,Tryz.results145,go_sem]) rfl ⟨v,rfl,HV,EO,HB3⟩
theorem GH (b off cap:Nat) (l:List Pu) (key:ByteArray) (n:Int) (w:World) (hl:l.length<=1048600) (hcap:l.length<=cap) (hk:∀p∈l,p.k.size<=1048576) (hkey:key.size<=1048576) (ha:aH w (some ⟨b,off,none⟩) l):
 Calls Tryz.prog 106 #[.slice (some ⟨b,off,none⟩) l.length cap,.string key,.int .i64 n] w (jm w (dK l key (1) (1) (0) n)):=by
 have H:=Hq (F5 b off cap l key (1) (1) (0) n w hl hcap hk hkey Aaa Aaa Aaa ha);clear ha hk;generalize dK l key (1) (1) (0) n=r at *;unfold jm at *;go_in
 open arP in exact abb
theorem adP (b off cap:Nat) (l:List Pu) (key:ByteArray) (n:Int) (w:World) (hl:l.length<=1048600) (hcap:l.length<=cap) (hk:∀p∈l,p.k.size<=1048576) (hkey:key.size<=1048576) (ha:aH w (some ⟨b,off,none⟩) l):
 Calls Tryz.prog 184 #[.slice (some ⟨b,off,none⟩) l.length cap,.string key,.int .i64 n] w (jm w (dK l key (0) (1) (0) n)):=by
 have H:=Hq (F5 b off cap l key (0) (1) (0) n w hl hcap hk hkey Aaa Aaa Aaa ha);clear ha hk;generalize dK l key (0) (1) (0) n=r at *;unfold jm at *;go_in
 open arO in exact abb
theorem adR (b off cap:Nat) (l:List Pu) (key:ByteArray) (n:Int) (w:World) (hl:l.length<=1048600) (hcap:l.length<=cap) (hk:∀p∈l,p.k.size<=1048576) (hkey:key.size<=1048576) (ha:aH w (some ⟨b,off,none⟩) l):
 Calls Tryz.prog 152 #[.slice (some ⟨b,off,none⟩) l.length cap,.string key,.int .i64 n] w (jm w (dK l key (0) (-1) (0) n)):=by
 have H:=Hq (F5 b off cap l key (0) (-1) (0) n w hl hcap hk hkey Aaa Aaa Aaa ha);clear ha hk;generalize dK l key (0) (-1) (0) n=r at *;unfold jm at *;go_in
 open arN in exact abb
theorem ZE (b off cap:Nat) (l:List Pu) (key:ByteArray) (n:Int) (w:World) (hl:l.length<=1048600) (hcap:l.length<=cap) (hk:∀p∈l,p.k.size<=1048576) (hkey:key.size<=1048576) (ha:aH w (some ⟨b,off,none⟩) l):
 Calls Tryz.prog 147 #[.slice (some ⟨b,off,none⟩) l.length cap,.string key,.int .i64 n] w (jm w (dK l key (0) (-1) (1) n)):=by
 have H:=Hq (F5 b off cap l key (0) (-1) (1) n w hl hcap hk hkey Aaa Aaa Aaa ha);clear ha hk;generalize dK l key (0) (-1) (1) n=r at *;unfold jm at *;go_in
 open arM in exact abb
theorem RJ (b off cap:Nat) (l:List Pu) (key:ByteArray) (n:Int) (w:World) (hl:l.length<=1048600) (hcap:l.length<=cap) (hk:∀p∈l,p.k.size<=1048576) (hkey:key.size<=1048576) (ha:aH w (some ⟨b,off,none⟩) l):
 Calls Tryz.prog 148 #[.slice (some ⟨b,off,none⟩) l.length cap,.string key,.int .i64 n] w (jm w (dK l key (0) (1) (-1) n)):=by
 have H:=Hq (F5 b off cap l key (0) (1) (-1) n w hl hcap hk hkey Aaa Aaa Aaa ha);clear ha hk;generalize dK l key (0) (1) (-1) n=r at *;unfold jm at *;go_in
 open arL in exact abb
end Go.Proofs.YtohmklmkjmlpjaaGreatDoor
