/- Parts. -/
import Derived.Test.YtacgbldlonoaaaaGreatDoorRw13
import Derived.Test.YtacgbldlonoaaaaGreatDoorRw15
namespace Go.Proofs.YtacgbldlonoaaaaGreatDoor
open Go.Proofs.Tryz
set_option maxHeartbeats 4000000
set_option maxRecDepth 100000
open Go.RowKit
open Mth
variable (a:Option Addr) (cap:Nat) (l:List Pu) (key:ByteArray) (n:Int) (E:Nat->Addr) (w:World)
abbrev shv (dm df ds:Int):Value:= .agg #[.int .i64 dm,.int .i64 df,.int .i64 ds]
theorem AV {w w1:World} {A B C:Obj} (hb:Below (((w.alloc A).alloc B).alloc C).heap.size (((w.alloc A).alloc B).alloc C) w1):
 w1.heap[w.heap.size]?=some A/\w1.heap[w.heap.size+1+1]?=some C/\aY w w1:=by
 have hs:(((w.alloc A).alloc B).alloc C).heap.size=w.heap.size+1+1+1:=Aac
 refine⟨?_,?_,((((Below.refl _ _).alloc (Nat.le_refl _) _).alloc Aac _).alloc Aaf _).trans (hb.mono Aaa)⟩
 .rw [hb.block _ Aaa,Below.heap_alloc _ _ _ Aaf,Below.heap_alloc _ _ _ Aac];exact heap_alloc_new w A
 .rw [hb.block _ Aaa];have h:=heap_alloc_new ((w.alloc A).alloc B) C;rwa [show((w.alloc A).alloc B).heap.size=w.heap.size+1+1 by simp] at h
theorem LZ (p:Pu) (dm df ds n:Int) (w:World) (hp:gX p=true) (h1:-1000000000<=dm*n/\dm*n<=1000000000) (h2:-1000000000<=df*n/\df*n<=1000000000) (h3:-1000000000<=ds*n/\ds*n<=1000000000) (hf:0<=p.f+df*n) (hs:0<=p.s+ds*n) (hok:gX (eX p dm df ds n)=true):
 Calls prog 261 #[Al p,shv dm df ds,.int .i64 n] w (fF w (.tuple #[Al (eX p dm df ds n),.nilIface])):=by
 have HO:=Hq (λw1=>qw (eX p dm df ds n) true w1 hok);open anb in exact aiS
theorem Ck (p:Pu) (dm df ds n:Int) (E:Nat->Addr) (w:World) (hp:gX p=true) (h1:-1000000000<=dm*n/\dm*n<=1000000000) (h2:-1000000000<=df*n/\df*n<=1000000000) (h3:-1000000000<=ds*n/\ds*n<=1000000000) (hf:0<=p.f+df*n) (hs:0<=p.s+ds*n) (hok:gX (eX p dm df ds n)=false) (he:iH w E):
 Calls prog 261 #[Al p,shv dm df ds,.int .i64 n] w (fF w (.tuple #[Al ⟨⟨#[]⟩,0,0,0⟩,uw (E 4)])):=by
 have HO:=Hq (λw1=>qw (eX p dm df ds n) false w1 hok);have HE:=Hq he;open ana in exact aiS
theorem DZ (p:Pu) (dm df ds n:Int) (E:Nat->Addr) (w:World) (hp:gX p=true) (h1:-1000000000<=dm*n/\dm*n<=1000000000) (h2:-1000000000<=df*n/\df*n<=1000000000) (h3:-1000000000<=ds*n/\ds*n<=1000000000) (hf:p.f+df*n < 0\/0<=p.f+df*n/\p.s+ds*n < 0) (he:iH w E):
 Calls prog 261 #[Al p,shv dm df ds,.int .i64 n] w (fF w (.tuple #[Al ⟨⟨#[]⟩,0,0,0⟩,uw (E 3)])):=by
 have HE:=Hq he;have hve:3 < w.heap.size:=World.block_lt_of_cell? _ _ (he.var 3 Aaa);open am9 in exact aiS
open Go.RowKit Go.Maps
theorem Ir (p:Pu) (dm df ds n:Int) (E:Nat->Addr) (w:World) (hp:gX p=true) (h1:-1000000000<=dm*n/\dm*n<=1000000000) (h2:-1000000000<=df*n/\df*n<=1000000000) (h3:-1000000000<=ds*n/\ds*n<=1000000000) (hok:gX (eX p dm df ds n)=false) (he:iH w E):
 Calls prog 261 #[Al p,shv dm df ds,.int .i64 n] w λe w'=>∃i,i < 5/\e= .returned (.tuple #[Al ⟨⟨#[]⟩,0,0,0⟩,uw (E i)])/\aY w w':=by
 by_cases hf:p.f+df*n < 0\/0<=p.f+df*n/\p.s+ds*n < 0
 .exact(DZ p dm df ds n E w hp h1 h2 h3 hf he).mono λe w' ⟨h,hb⟩=>⟨_,Aaa,h,hb⟩
 .exact(Ck p dm df ds n E w hp h1 h2 h3 Aaa Aaa hok he).mono λe w' ⟨h,hb⟩=>⟨_,Aaa,h,hb⟩
theorem LW (B mp mb n0:Nat) (v:Value) (l:List Pu) (key:ByteArray) (dm df ds n:Int) (E:Nat->Addr) (w:World) (hkey:key.size<=1048576) (hp:gX (aG l key)=true) (h1:-1000000000<=dm*n/\dm*n<=1000000000) (h2:-1000000000<=df*n/\df*n<=1000000000) (h3:-1000000000<=ds*n/\ds*n<=1000000000) (h:PM w B mp mb n0 v (l.map (·.k)) (aG l)) (he:iH w E) (hok:gX (eX (aG l key) dm df ds n)=false):
 Calls prog 248 #[.pointer (some ⟨mp,0,none⟩),.string key,.int .i64 n,shv dm df ds] w λe w'=>∃i,i < 5/\e= .returned (uw (E i))/\aY w w':=by
 have ND:=Hq (λw1 (hb:aY w w1)=>LQ mp mb n0 v (aG l) key w1 hkey (h.below hb).blk (h.below hb).map);have HSH:=Hq (λw1 (hb:aY w w1)=>Ir (aG l key) dm df ds n E w1 hp h1 h2 h3 hok (he.below hb));clear h he hok hp h1 h2 h3;generalize aG l key=p at *;obtain⟨pk,pm,pf,ps⟩:=p;open aoc in exact awx
theorem Px (B mp mb n0:Nat) (v:Value) (l:List Pu) (key:ByteArray) (dm df ds n:Int) (E:Nat->Addr) (w:World) (hB:B<=w.heap.size) (hkey:key.size<=1048576) (hn0:n0 < maxLen) (hl:l.length<=20) (hpw:l.Pairwise Mf) (hp:gX (aG l key)=true) (h1:-1000000000<=dm*n/\dm*n<=1000000000) (h2:-1000000000<=df*n/\df*n<=1000000000) (h3:-1000000000<=ds*n/\ds*n<=1000000000) (h:PM w B mp mb n0 v (l.map (·.k)) (aG l)) (he:iH w E) (hok:gX (eX (aG l key) dm df ds n)=true):
 Calls prog 248 #[.pointer (some ⟨mp,0,none⟩),.string key,.int .i64 n,shv dm df ds] w λe w'=>Below B w w'/\
  ((found l key=false/\l.length=20/\e= .returned (uw (E 4)))\/
   ((found l key=true\/l.length < 20)/\e= .returned .nilIface/\∃v',PM w' B mp mb (n0+1) v' ((jq l (eX (aG l key) dm df ds n)).map (·.k)) (upd (aG l) (eX (aG l key) dm df ds n)))):=by
 have hpos:gX (eX (aG l key) dm df ds n)=true:=hok
 have hff:0<=(aG l key).f+df*n/\0<=(aG l key).s+ds*n:=by
  unfold gX at hpos;simp only[Bool.and_eq_true] at hpos;have b2:0<=(aG l key).f+df*n/\(aG l key).f+df*n<=1000000000:=of_decide_eq_true hpos.1.1.2;have b3:0<=(aG l key).s+ds*n/\(aG l key).s+ds*n<=1000000000:=of_decide_eq_true hpos.1.2;exact⟨b2.1,b3.1⟩
 have ND:=Hq (λw1 (hb:aY w w1)=>LQ mp mb n0 v (aG l) key w1 hkey (h.below hb).blk (h.below hb).map);have HSH:=Hq (λw1 (hb:aY w w1)=>LZ (aG l key) dm df ds n w1 hp h1 h2 h3 hff.1 hff.2 hok);have adb:=Hq (λw1 (hb:aY w w1)=>TA B mp mb n0 v l (aG l) key E w1 hpw hl (Nat.le_trans hB hb.size) (h.below hb) (he.below hb));have YV:=Hq (λw1 (hb:aY w w1)=>h.below hb);have hpk:(eX (aG l key) dm df ds n).k=key:=qy l key;have tZ:=Hq (λhf=>(wE (l:=l) (p:=eX (aG l key) dm df ds n) hf).symm);have HKN:=Hq (λhf=>(Mx (l:=l) (p:=eX (aG l key) dm df ds n) hf).symm);rw [hpk] at tZ HKN;have hkk:(aG l key).k=key:=qy l key;clear h he hok hp h1 h2 h3 hpos hff hpw;unfold eX at *;generalize jq l ⟨(aG l key).k,(aG l key).m+dm*n,(aG l key).f+df*n,(aG l key).s+ds*n⟩=PL at *;generalize hG:aG l=G at *;generalize G key=p at *;obtain⟨pk,pm,pf,ps⟩:=p;dsimp only at *;subst hkk;generalize pm+dm*n=qm at *;generalize pf+df*n=qf at *;generalize ps+ds*n=qs at *;clear hG hpk;open aob in exact awx
namespace Mth
theorem ac0 {l:List Pu} (hp:l.Pairwise Mf) (k:Nat) (hk:k < l.length):upd (aG (l.take k)) l[k]=aG (l.take (k+1)):=by
 funext key
 have hsub:(l.take (k+1)).Pairwise Mf:=hp.sublist (List.take_sublist _ _);unfold upd;by_cases e:key=l[k].k
 .rw [if_pos e,e];exact(rJ hsub (List.mem_take_iff_getElem.2 ⟨k,Aaa,rfl⟩)).symm
 .rw [if_neg e];unfold aG;rw [List.take_succ_eq_append_getElem hk,List.find?_append]
  have:[l[k]].find? (λp=>p.k.toList == key.toList)=none:=by
   rw [List.find?_eq_none];intro q hq;rw [List.mem_singleton] at hq;subst hq;simp only[beq_iff_eq];exact λe'=>e (toList_inj e').symm
  rw [this];simp
end Mth
theorem aem:(Tryz.prog.info? 9).map (λi=>(i.zero,i.size,i.bytes))=some (some (.string ⟨#[]⟩),1,16):=Aab
theorem LV (a:Option Addr) (cap:Nat) (l:List Pu) (E:Nat->Addr) (w:World) (hl:l.length<=1048600) (ha:aI w a l) (he:iH w E) (hno:jo l=false):
 Calls Tryz.prog 247 #[.slice a l.length cap] w (fF w (.tuple #[.pointer none,uw (E 2)])):=by
 have lD:=Hq (uF a cap l w hl ha);have HE:=Hq he;clear ha he;go_in
 go_wp2_with fail;refine lD.mono ?_;rintro e w1 ⟨rfl,hb1⟩;rw [hno];have ve:=(HE.below hb1).var 2 Aaa;have HB:=Hq hb1;clear hb1 lD;go_wp2_with fail;go_quiet (fail);go_wp2_with fail;go_ret2
 exact⟨rfl,HB.trans ⟨rfl,rfl,rfl,Nat.le_refl _,λ_ _=>rfl⟩⟩
theorem Ih (a:Option Addr) (cap:Nat) (l:List Pu) (w:World) (ha:aI w a l) (hks:∀p∈l,p.k.size<=1048576) (hok:jo l=true):
 Calls Tryz.prog 247 #[.slice a l.length cap] w λe w'=>∃mp mb v,e= .returned (.tuple #[.pointer (some ⟨mp,0,none⟩),.nilIface])/\PM w' w.heap.size mp mb l.length v (l.map (·.k)) (aG l)/\aY w w':=by
 obtain⟨hpu,hpw,hl⟩:=(kJ l).1 hok;have GQ:=Hq hpw;have lD:=Hq (uF a cap l w Aaa ha);have HA:=Hq ha;obtain⟨i0,hi,hz0,hz1,hz2⟩:=info_parts aem;have YN:=Hq hks;have hmm:= @run_makeMap Tryz.prog;clear ha hpw hpu hks;go_in
 go_wp2_with fail;refine lD.mono ?_;rintro e w1 ⟨rfl,hb1⟩;rw [hok];have HB1:=Hq hb1;have hw1:=hb1.size;clear hb1 lD hok;go_wp2_with fail;go_loopw [16] (λi wr=>∃(k:Nat) (aa:Option Addr) (cc:Nat),k<=l.length/\i= .int .i64 k/\PM wr w.heap.size (w1.heap.size+1) w1.heap.size k (.slice aa k cc) ((l.take k).map (·.k)) (aG (l.take k))/\aY w wr) (λi _=>l.length - (intOf i).toNat)
 case atStart=>
  refine⟨0,none,0,Nat.zero_le _,rfl,⟨?_,?_,?_,Aaa,Aaa⟩,(HB1.alloc Aaa _).alloc Aaf _⟩
  .have:=heap_alloc_new (w1.alloc (.map #[] 0)) (.cells #[.slice none 0 0,.map (some w1.heap.size)] 306);rwa [show(w1.alloc (Obj.map #[] 0)).heap.size=w1.heap.size+1 by simp] at this
  .exact World.ownsRow_nil _ _ _ _
  .exact(iN.made w1).kept (Below.heap_alloc _ _ _ Aac)
 case round=>
  obtain⟨k,aa,cc,hk,rfl,Ce,hbel⟩:=hrel;have HP:=Hq Ce;have gI:=Hq hbel;have hwr:=hbel.size;clear Ce hbel;by_cases hlt:k < l.length
  .obtain⟨g,off,rfl,hgw,c0,c1,c2,c3⟩:=aI.four (GR.At.below HA gI) k hlt;have HUP:=Hq (ac0 GQ k hlt);have UW:=Hq (List.take_succ_eq_append_getElem hlt);have hkk:=ah YN l[k] (List.getElem_mem hlt);generalize l[k]=pu at *;obtain⟨pk,pm,pf,ps⟩:=pu;dsimp only at c0 c1 c2 c3 hkk;go_upto_region 7 with fail;refine Fo.wp_at (λV hV=>?_);have hbV:aY wr V:=by rw [hV];exact dU wr _
   open auv in exact agq
  .open an1 in exact Hu
theorem XA (a:Option Addr) (cap:Nat) (l:List Pu) (key:ByteArray) (dm df ds n:Int) (E:Nat->Addr) (w:World) (hl:l.length<=1048576) (hks:∀p∈l,p.k.size<=1048576) (hkey:key.size<=1048576) (hd1:dm= -1\/dm=0\/dm=1) (hd2:df= -1\/df=0\/df=1) (hd3:ds= -1\/ds=0\/ds=1) (ha:aI w a l) (he:iH w E):
 Calls Tryz.prog 225 #[.slice a l.length cap,.string key,.int .i64 n,shv dm df ds] w λe w'=>aY w w'/\
  (((dJ l key dm df ds n).2=false/\∃i,i < 5/\e= .returned (.tuple #[.slice none 0 0,uw (E i)]))\/
   ((dJ l key dm df ds n).2=true/\∃g,w.heap.size<=g/\e= .returned (.tuple #[.slice (some ⟨g,0,none⟩) (dJ l key dm df ds n).1.length (dJ l key dm df ds n).1.length,.nilIface])/\wD w' g (dJ l key dm df ds n).1)):=by
 have hb0:=dU w (.cells #[.int .i64 dm,.int .i64 df,.int .i64 ds] 220);cases hok:jo l
 .have kS:=Hq (LV a cap l E _ Aaa (GR.At.below ha hb0) (he.below hb0) hok);have HAD:=Hq (JI (key:=key) (dm:=dm) (df:=df) (ds:=ds) (n:=n) hok);clear ha he hks hok hb0 hd1 hd2 hd3;go_in
  go_wp2_with fail;refine kS.mono ?_;rintro e w1 ⟨rfl,hb1⟩;have HB1:=Hq (Fo.one_block hb1).2.2;clear hb1;go_wp2_with fail;go_ret2
  exact⟨HB1,.inl ⟨by rw [ah HAD],_,Aaa,rfl⟩⟩
 have HOF:=Hq (Ih a cap l _ (GR.At.below ha hb0) hks hok);have HE:=Hq he;cases hkk:keyOk key.data.toList
 .have HK:=Hq (λw1=>zM key false w1 hkk)
  have HAD:Hid ((dJ l key dm df ds n).2=false):=by
   by_cases hn:1<=n/\n<=1000000000
   .rw [KW hok hn,Yq hkk];rfl
   .rw [KY hn];exact Hq rfl
  clear ha he hks hok hb0 hd1 hd2 hd3 hkk;go_in
  go_wp2_with fail;refine HOF.mono ?_;rintro e w1 ⟨mp,mb,v,rfl,Ce,hb1⟩;have HB1:=Hq (Fo.one_block hb1).2.2;have ve:=(HE.below HB1).var 0 Aaa;clear hb1 Ce HOF;go_wp2_with (go_at_call 131;refine(HK _).mono ?_;rintro e w2 ⟨rfl,rfl⟩)
  go_quiet (fail);go_wp2_with fail;go_ret2
  exact⟨HB1.trans ⟨rfl,rfl,rfl,Nat.le_refl _,λ_ _=>rfl⟩,.inl ⟨HAD,_,Aaa,rfl⟩⟩
 have HK:=Hq (λw1=>zM key true w1 hkk);by_cases hn:1<=n/\n<=1000000000
 case' neg=>
  have HAD:=Hq (KY (l:=l) (key:=key) (dm:=dm) (df:=df) (ds:=ds) hn)
  have GK:=Hq (λw1=>aU n false w1 (decide_eq_false hn))
  clear ha he hks hok hb0 hd1 hd2 hd3 hkk
  go_in
  go_wp2_with fail
  refine HOF.mono ?_
  rintro e w1 ⟨mp,mb,v,rfl,Ce,hb1⟩
  have HB1:=Hq (Fo.one_block hb1).2.2
  have ve:=(HE.below HB1).var 1 Aaa
  clear hb1 Ce HOF
  go_wp2_with (first|(go_at_call 131;refine(HK _).mono ?_;rintro e w2 ⟨rfl,rfl⟩)|(go_at_call 54;refine(GK _).mono ?_;rintro e w2 ⟨rfl,rfl⟩))
  go_quiet (fail)
  go_wp2_with fail
  go_ret2
  exact⟨HB1.trans ⟨rfl,rfl,rfl,Nat.le_refl _,λ_ _=>rfl⟩,.inl ⟨by rw [ah HAD],_,Aaa,rfl⟩⟩
 have GK:=Hq (λw1=>aU n true w1 (decide_eq_true hn));have hpo:=yJ (l:=l) (key:=key) hok hkk;have u1:=tX hd1 hn;have u2:=tX hd2 hn;have u3:=tX hd3 hn;obtain⟨_,hpw,aBl⟩:=(kJ l).1 hok;have HAI:=Hq (KW (key:=key) (dm:=dm) (df:=df) (ds:=ds) hok hn);have YN:=Hq hks;cases hsp:gX (eX (aG l key) dm df ds n)
 .have YQ:=Hq (λB mp mb n0 v w1 (h:PM w1 B mp mb n0 v (l.map (·.k)) (aG l)) (he1:iH w1 E)=>LW B mp mb n0 v l key dm df ds n E w1 hkey hpo u1 u2 u3 h he1 hsp)
  have HAD:Hid ((dJ l key dm df ds n).2=false):=by
   rw [ah HAI,hsp];rfl
  clear ha he hks hok hb0 hd1 hd2 hd3 hkk hpo u1 u2 u3 hpw hsp HAI;open ao9 in exact awL
 .have YQ:=Hq (λB mp mb n0 v w1 (hB:B<=w1.heap.size) (hn0:n0 < maxLen) (h:PM w1 B mp mb n0 v (l.map (·.k)) (aG l)) (he1:iH w1 E)=>Px B mp mb n0 v l key dm df ds n E w1 hB hkey hn0 aBl hpw hpo u1 u2 u3 h he1 hsp);have hkp:(eX (aG l key) dm df ds n).k=key:=qy l key
  have Zh:Hid (found l key=false->l.length=20->(dJ l key dm df ds n).2=false):=by
   intro hf h20;have hlen:=wF (l:=l) (p:=eX (aG l key) dm df ds n) (by rw [hkp];exact hf);rw [ah HAI,hsp,decide_eq_false Aaa];rfl
  have Zz:Hid ((found l key=true\/l.length < 20)->dJ l key dm df ds n=(jq l (eX (aG l key) dm df ds n),true)/\(jq l (eX (aG l key) dm df ds n)).length<=20):=by
   intro hf
   have hlen:(jq l (eX (aG l key) dm df ds n)).length<=20:=by
    cases hff:found l key
    .have:=wF (l:=l) (p:=eX (aG l key) dm df ds n) (by rw [hkp];exact hff);rcases hf with hf|hf
     .rw [hff] at hf;cases hf
     .omega
    .have:=tC (l:=l) (p:=eX (aG l key) dm df ds n) (by rw [hkp];exact hff);omega
   rw [ah HAI,hsp,decide_eq_true hlen];exact⟨rfl,hlen⟩
  have xL:Hid (∀q∈jq l (eX (aG l key) dm df ds n),q.k.size<=1048576):=by
   intro q hq;rcases put_mem hq with rfl|hq
   .rw [hkp];exact hkey
   .exact YN q hq
  have HPA:=Hq (aj0 hpw (eX (aG l key) dm df ds n));clear ha he hks hok hb0 hd1 hd2 hd3 hkk hpo u1 u2 u3 hpw hsp HAI hkp;generalize jq l (eX (aG l key) dm df ds n)=PL at *;generalize upd (aG l) (eX (aG l key) dm df ds n)=G2 at *;open ao8 in exact awL
theorem Mth.addP_no {l:List Pu} {key:ByteArray} {dm df ds n:Int} (h:(dJ l key dm df ds n).2=false):(dJ l key dm df ds n).1=l:=by
 exact ah3
def ku (w:World) (r:List Pu×Bool) (e:Ending) (w':World):Prop:=∃a c g,w.heap.size<=g/\e= .returned (.tuple #[.slice a r.1.length c,.bool r.2])/\BJ w' a g r.1/\aY w w'
theorem zN (a:Option Addr) (cap:Nat) (l:List Pu) (key:ByteArray) (dm df ds n:Int) (E:Nat->Addr) (w:World) (hl:l.length<=1048576) (hks:∀p∈l,p.k.size<=1048576) (hkey:key.size<=1048576) (hd1:dm= -1\/dm=0\/dm=1) (hd2:df= -1\/df=0\/df=1) (hd3:ds= -1\/ds=0\/ds=1) (ha:aI w a l) (he:iH w E):
 Calls Tryz.prog 186 #[.slice a l.length cap,.string key,.int .i64 n,shv dm df ds] w (ku w (dJ l key dm df ds n)):=by
 have hb0:=dU w (.cells #[.int .i64 dm,.int .i64 df,.int .i64 ds] 220);have YQ:=Hq (XA a cap l key dm df ds n E _ hl hks hkey hd1 hd2 hd3 (GR.At.below ha hb0) (he.below hb0));have HE:=Hq he;have Du:=Hq (λw1 (hb:aY w w1)=>Pt a cap l w1 hl hks (GR.At.below ha hb));have kS:=Hq (addP_no (l:=l) (key:=key) (dm:=dm) (df:=df) (ds:=ds) (n:=n));clear ha he hks hb0 hd1 hd2 hd3;generalize dJ l key dm df ds n=r at *;obtain⟨L,bo⟩:=r;dsimp only at YQ kS;unfold ku;go_in
 go_wp2_with fail;refine YQ.mono ?_;rintro e w1 ⟨hb1,hcase⟩;have HB1:=Hq (Fo.one_block hb1).2.2;have HS:=Hq hb1.size;clear hb1 YQ;rcases hcase with⟨hno,i,hi,rfl⟩|⟨hyes,g,hg,rfl,hblk⟩
 .have hL:=ah kS hno;subst hno hL;have HIR:=Hq (Mc (HE.below HB1) i hi);have HCX:=Hq (Du _ HB1);clear Du kS;go_wp2_with fail;refine HIR.mono ?_;rintro e w2 ⟨rfl,rfl⟩;go_wp2_with fail;refine HCX.mono ?_;rintro e w3 ⟨a3,c3,g3,hg3,rfl,hblk3,hb3⟩;have HK3:=Hq hblk3;have HB3:=Hq (HB1.trans (hb3.mono HB1.size));clear hblk3 hb3;go_wp2_with fail;go_ret2
  exact⟨_,_,g3,Nat.le_trans HB1.size hg3,rfl,HK3,HB3⟩
 .subst hyes;have HIR:=Hq (Iu (HE.below HB1));have HK:=Hq hblk;have hge:w.heap.size<=g:=by have:=ah HS;simp at hg;omega
  clear Du kS hblk;go_wp2_with fail;refine HIR.mono ?_;rintro e w2 ⟨rfl,rfl⟩;go_wp2_with fail;go_ret2
  exact⟨_,_,g,hge,rfl,BJ.of_blk HK,HB1⟩
theorem abM (hl:l.length<=1048576) (hks:∀p∈l,p.k.size<=1048576) (hkey:key.size<=1048576) (ha:aI w a l) (he:iH w E):
 Calls Tryz.prog 163 #[.slice a l.length cap,.string key,.int .i64 n] w (ku w (dJ l key (1) (1) (0) n)):=by
 have H:=Hq (zN a cap l key (1) (1) (0) n E w hl hks hkey Aaa Aaa Aaa ha he);clear ha he hks;generalize dJ l key (1) (1) (0) n=r at *;unfold ku at *;go_in
 exact aaR
theorem abK (hl:l.length<=1048576) (hks:∀p∈l,p.k.size<=1048576) (hkey:key.size<=1048576) (ha:aI w a l) (he:iH w E):
 Calls Tryz.prog 232 #[.slice a l.length cap,.string key,.int .i64 n] w (ku w (dJ l key (0) (1) (0) n)):=by
 have H:=Hq (zN a cap l key (0) (1) (0) n E w hl hks hkey Aaa Aaa Aaa ha he);clear ha he hks;generalize dJ l key (0) (1) (0) n=r at *;unfold ku at *;go_in
 exact aaR
theorem abN (hl:l.length<=1048576) (hks:∀p∈l,p.k.size<=1048576) (hkey:key.size<=1048576) (ha:aI w a l) (he:iH w E):
 Calls Tryz.prog 191 #[.slice a l.length cap,.string key,.int .i64 n] w (ku w (dJ l key (0) (-1) (0) n)):=by
 have H:=Hq (zN a cap l key (0) (-1) (0) n E w hl hks hkey Aaa Aaa Aaa ha he);clear ha he hks;generalize dJ l key (0) (-1) (0) n=r at *;unfold ku at *;go_in
 exact aaR
theorem XD (hl:l.length<=1048576) (hks:∀p∈l,p.k.size<=1048576) (hkey:key.size<=1048576) (ha:aI w a l) (he:iH w E):
 Calls Tryz.prog 165 #[.slice a l.length cap,.string key,.int .i64 n] w (ku w (dJ l key (0) (-1) (1) n)):=by
 have H:=Hq (zN a cap l key (0) (-1) (1) n E w hl hks hkey Aaa Aaa Aaa ha he);clear ha he hks;generalize dJ l key (0) (-1) (1) n=r at *;unfold ku at *;go_in
 exact aaR
theorem PK (hl:l.length<=1048576) (hks:∀p∈l,p.k.size<=1048576) (hkey:key.size<=1048576) (ha:aI w a l) (he:iH w E):
 Calls Tryz.prog 167 #[.slice a l.length cap,.string key,.int .i64 n] w (ku w (dJ l key (0) (1) (-1) n)):=by
 have H:=Hq (zN a cap l key (0) (1) (-1) n E w hl hks hkey Aaa Aaa Aaa ha he);clear ha he hks;generalize dJ l key (0) (1) (-1) n=r at *;unfold ku at *;go_in
 exact aaR
end Go.Proofs.YtacgbldlonoaaaaGreatDoor
