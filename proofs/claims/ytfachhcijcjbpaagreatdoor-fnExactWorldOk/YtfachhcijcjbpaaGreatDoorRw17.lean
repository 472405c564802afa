/- Parts. -/
import Derived.Test.YtfachhcijcjbpaaGreatDoorRw13
import Derived.Test.YtfachhcijcjbpaaGreatDoorRw12
namespace Go.Proofs.YtfachhcijcjbpaaGreatDoor
open Go.Proofs.Tryz
set_option maxHeartbeats 4000000
set_option maxRecDepth 100000
open Mth
variable (a:Option Addr) (cap:Nat) (l:List Pu) (key:ByteArray) (n:Int) (E:Nat->Addr) (w:World)
namespace Mth
def jw (l:List Int) (n:Int) (k:Nat):List Int:=((List.range k).filter (λi=>decide (l[i]?.getD (-1)=n))).map (λi:Nat=>(i:Int))
def yc (l:List Int) (n:Int):List Int:=jw l n l.length
theorem UE (l:List Int) (n:Int) (k:Nat) (hk:k < l.length) (h:l[k]=n):jw l n (k+1)=jw l n k++[(k:Int)]:=by
 unfold jw;rw [aGm,List.filter_append,List.map_append];congr 1
 rw [List.filter_cons_of_pos (by rw [aEB hk,Option.getD_some,h];simp)];rfl
theorem Ch (l:List Int) (n:Int) (k:Nat) (hk:k < l.length) (h:l[k]≠n):jw l n (k+1)=jw l n k:=by
 unfold jw;rw [aGm,List.filter_append,List.map_append];rw [List.filter_cons_of_neg (by rw [aEB hk,Option.getD_some];simpa using h)];simp
theorem UD {l:List Int} (hT:JY l) (n:Int) (hn:0<=n):jw l n 1=[]:=by
 rw [Ch l n 0 hT.pos (by rw [hT.at_zero];omega)];rfl
theorem FY (l:List Int) (n:Int) (k:Nat):(jw l n k).length<=k:=by
 unfold jw;rw [aFo];exact aEA (aGa _ _) Aac
end Mth
open Go.RowKit
open Mth
theorem Qp:(Tryz.prog.info? 3).map (λi=>(i.zero,i.size,i.bytes))=some (some (.int .i64 0),1,8):=Aab
theorem IW (l:List Int) (x:Int):GR.flat aW (l++[x])=GR.flat aW l++[.int .i64 x]:=by rw [GR.flat_append,GR.flat_one]
theorem Vm (a:Option Addr) (cap:Nat) (l:List Int) (n:Int) (w:World) (hl:l.length<=1048600) (ha:aK w a l) (htb:jG l=true) (hn:0<=n):
 Calls Tryz.prog 39 #[ZV a l cap,.int .i64 n] w λe w'=>∃v,e= .returned v/\w'.ownsRow w.heap.size 3 1 v (yc l n).length (GR.flat aW (yc l n))/\aG w w':=by
 obtain⟨i0,hi,hz0,hz1,hz2⟩:=aEY Qp;have HTP:=Hq (JY.of htb);have HT0:=aEu w (.cells #[.slice a l.length cap] 33);have HB0:=aV w (.cells #[.slice a l.length cap] 33);have SA:=GR.At.below ha HB0;have hsz0:(w.alloc (.cells #[.slice a l.length cap] 33)).heap.size=w.heap.size+1:=Aac
 have HC:=Hq (λW (hb:Below (w.alloc (.cells #[.slice a l.length cap] 33)).heap.size (w.alloc (.cells #[.slice a l.length cap] 33)) W)=>GZ a cap l W hl (GR.At.below SA hb));rw [htb] at HC;clear ha htb;have aB6:=HTP.le;go_in
 go_wp2_with fail;generalize w.alloc (.cells #[.slice a l.length cap] 33)=W0 at *;have HA:=Hq SA;have HB:=Hq HB0;have HT:=Hq HT0;have HZ:=Hq hsz0;clear SA HB0 HT0 hsz0;go_loopw [5,6] (λv i wr=>∃k:Nat,1<=k/\k<=l.length/\i= .int .i64 k/\wr.ownsRow W0.heap.size 3 1 v (jw l n k).length (GR.flat aW (jw l n k))/\aG W0 wr) (λ_ i _=>l.length - (intOf i).toNat)
 case atStart=>
  refine⟨1,aEx _,HTP.pos,rfl,?_,(aEK _ _).alloc (aEx _) _⟩;rw [UD (ah HTP) n hn,<-ah HZ];exact aFb _ #[] 0 (aEx _) Aag rfl
 case round=>
  obtain⟨k,hk1,hk,rfl,hown,hbel⟩:=hrel;have aO:=Hq hbel;have t1:=(Ck (Er HT hbel)).1;by_cases hlt:k < l.length
  .have hlen:=FY l n k;have nD:=ah HC _ hbel;clear hbel;go_wp2_with fail;refine nD.mono ?_;rintro e w1 ⟨rfl,hb1⟩;have HB1:=Hq (aO.trans (hb1.mono aO.size));have hown1:=GR.own_below hown hb1;have t2:=(Ck (Er HT HB1)).1;obtain⟨g,off,rfl,hgw,q0⟩:=aK.one (GR.At.below HA HB1) k hlt;clear hown hb1 t1;by_cases hkn:l[k]=n
   .open au7 in exact ahn
   .have HY:=Hq (Ch l n k hlt hkn);generalize l[k]=pu at *;have hnn:(pu == n)=false:=by simpa using hkn
    go_wp2_with fail;go_roundw
    case rel=>exact⟨k+1,Aaa,Aaa,Aaf,by rw [ah HY];exact hown1,HB1⟩
    case measure=>simp[intOf];omega
  .have hke:k=l.length:=Aaa
   subst hke;clear hbel;go_wp2_with fail;go_ret;exact⟨_,rfl,GR.own_lower hown (by have:=ah HZ;omega),HB.trans (aO.mono HB.size)⟩
abbrev shv (dm df ds:Int):Value:= .agg #[.int .i64 dm,.int .i64 df,.int .i64 ds]
theorem Bg {w w1:World} {A B C:Obj} (hb:Below (((w.alloc A).alloc B).alloc C).heap.size (((w.alloc A).alloc B).alloc C) w1):
 w1.heap[w.heap.size]?=some A/\w1.heap[w.heap.size+1+1]?=some C/\aG w w1:=by
 have hs:(((w.alloc A).alloc B).alloc C).heap.size=w.heap.size+1+1+1:=Aac
 refine⟨?_,?_,((((aEK _ _).alloc (aEx _) _).alloc Aac _).alloc Aae _).trans (hb.mono Aaa)⟩
 .rw [hb.block _ Aaa,aEI _ _ _ Aae,aEI _ _ _ Aac];exact aEu w A
 .rw [hb.block _ Aaa];have h:=aEu ((w.alloc A).alloc B) C;rwa [show((w.alloc A).alloc B).heap.size=w.heap.size+1+1 by simp] at h
theorem MR (p:Pu) (dm df ds n:Int) (w:World) (hp:gZ p=true) (h1:-1000000000<=dm*n/\dm*n<=1000000000) (h2:-1000000000<=df*n/\df*n<=1000000000) (h3:-1000000000<=ds*n/\ds*n<=1000000000) (hf:0<=p.f+df*n) (hs:0<=p.s+ds*n) (hok:gZ (eT p dm df ds n)=true):
 Calls Tryz.prog 310 #[xO p,shv dm df ds,.int .i64 n] w (dK w (.tuple #[xO (eT p dm df ds n),.nilIface])):=by
 have HO:=Hq (λw1=>pV (eT p dm df ds n) true w1 hok);open an2 in exact aj3
theorem Cg (p:Pu) (dm df ds n:Int) (E:Nat->Addr) (w:World) (hp:gZ p=true) (h1:-1000000000<=dm*n/\dm*n<=1000000000) (h2:-1000000000<=df*n/\df*n<=1000000000) (h3:-1000000000<=ds*n/\ds*n<=1000000000) (hf:0<=p.f+df*n) (hs:0<=p.s+ds*n) (hok:gZ (eT p dm df ds n)=false) (he:gX w E):
 Calls Tryz.prog 310 #[xO p,shv dm df ds,.int .i64 n] w (dK w (.tuple #[xO ⟨⟨#[]⟩,0,0,0⟩,um (E 5)])):=by
 have HO:=Hq (λw1=>pV (eT p dm df ds n) false w1 hok);have HE:=Hq he;open an1 in exact aj3
theorem DZ (p:Pu) (dm df ds n:Int) (E:Nat->Addr) (w:World) (hp:gZ p=true) (h1:-1000000000<=dm*n/\dm*n<=1000000000) (h2:-1000000000<=df*n/\df*n<=1000000000) (h3:-1000000000<=ds*n/\ds*n<=1000000000) (hf:p.f+df*n < 0\/0<=p.f+df*n/\p.s+ds*n < 0) (he:gX w E):
 Calls Tryz.prog 310 #[xO p,shv dm df ds,.int .i64 n] w (dK w (.tuple #[xO ⟨⟨#[]⟩,0,0,0⟩,um (E 4)])):=by
 have HE:=Hq he;have hve:4 < w.heap.size:=aFC _ _ (he.var 4 Aaa);open an0 in exact aj3
open Go.RowKit Go.Maps
theorem Jf (p:Pu) (dm df ds n:Int) (E:Nat->Addr) (w:World) (hp:gZ p=true) (h1:-1000000000<=dm*n/\dm*n<=1000000000) (h2:-1000000000<=df*n/\df*n<=1000000000) (h3:-1000000000<=ds*n/\ds*n<=1000000000) (hok:gZ (eT p dm df ds n)=false) (he:gX w E):
 Calls Tryz.prog 310 #[xO p,shv dm df ds,.int .i64 n] w λe w'=>∃i,(1<=i/\i < 6)/\e= .returned (.tuple #[xO ⟨⟨#[]⟩,0,0,0⟩,um (E i)])/\aG w w':=by
 by_cases hf:p.f+df*n < 0\/0<=p.f+df*n/\p.s+ds*n < 0
 .exact(DZ p dm df ds n E w hp h1 h2 h3 hf he).mono λe w' ⟨h,hb⟩=>⟨_,Aaa,h,hb⟩
 .exact(Cg p dm df ds n E w hp h1 h2 h3 Aaa Aaa hok he).mono λe w' ⟨h,hb⟩=>⟨_,Aaa,h,hb⟩
theorem MJ (B mp mb n0:Nat) (v:Value) (l:List Pu) (key:ByteArray) (dm df ds n:Int) (E:Nat->Addr) (w:World) (hkey:key.size<=1048576) (hp:gZ (aD l key)=true) (h1:-1000000000<=dm*n/\dm*n<=1000000000) (h2:-1000000000<=df*n/\df*n<=1000000000) (h3:-1000000000<=ds*n/\ds*n<=1000000000) (h:PM w B mp mb n0 v (l.map (·.k)) (aD l)) (he:gX w E) (hok:gZ (eT (aD l key) dm df ds n)=false):
 Calls Tryz.prog 298 #[.pointer (some ⟨mp,0,none⟩),.string key,.int .i64 n,shv dm df ds] w λe w'=>∃i,(1<=i/\i < 6)/\e= .returned (um (E i))/\aG w w':=by
 have OJ:=Hq (λw1 (hb:aG w w1)=>MF mp mb n0 v (aD l) key w1 hkey (h.below hb).blk (h.below hb).map);have HSH:=Hq (λw1 (hb:aG w w1)=>Jf (aD l key) dm df ds n E w1 hp h1 h2 h3 hok (he.below hb));clear h he hok hp h1 h2 h3;generalize aD l key=p at *;obtain⟨pk,pm,pf,ps⟩:=p;open aph in exact awk
theorem Qh (B mp mb n0:Nat) (v:Value) (l:List Pu) (key:ByteArray) (dm df ds n:Int) (E:Nat->Addr) (w:World) (hB:B<=w.heap.size) (hkey:key.size<=1048576) (hn0:n0 < maxLen) (hl:l.length<=20) (hpw:l.Pairwise Oz) (hp:gZ (aD l key)=true) (h1:-1000000000<=dm*n/\dm*n<=1000000000) (h2:-1000000000<=df*n/\df*n<=1000000000) (h3:-1000000000<=ds*n/\ds*n<=1000000000) (h:PM w B mp mb n0 v (l.map (·.k)) (aD l)) (he:gX w E) (hok:gZ (eT (aD l key) dm df ds n)=true):
 Calls Tryz.prog 298 #[.pointer (some ⟨mp,0,none⟩),.string key,.int .i64 n,shv dm df ds] w λe w'=>Below B w w'/\
  ((found l key=false/\l.length=20/\e= .returned (um (E 5)))\/
   ((found l key=true\/l.length < 20)/\e= .returned .nilIface/\∃v',PM w' B mp mb (n0+1) v' ((iQ l (eT (aD l key) dm df ds n)).map (·.k)) (upd (aD l) (eT (aD l key) dm df ds n)))):=by
 have hpos:gZ (eT (aD l key) dm df ds n)=true:=hok
 have hff:0<=(aD l key).f+df*n/\0<=(aD l key).s+ds*n:=by
  unfold gZ at hpos;simp only[aED] at hpos;have b2:0<=(aD l key).f+df*n/\(aD l key).f+df*n<=1000000000:=aEQ hpos.1.1.2;have b3:0<=(aD l key).s+ds*n/\(aD l key).s+ds*n<=1000000000:=aEQ hpos.1.2;exact⟨b2.1,b3.1⟩
 have OJ:=Hq (λw1 (hb:aG w w1)=>MF mp mb n0 v (aD l) key w1 hkey (h.below hb).blk (h.below hb).map);have HSH:=Hq (λw1 (hb:aG w w1)=>MR (aD l key) dm df ds n w1 hp h1 h2 h3 hff.1 hff.2 hok);have aeb:=Hq (λw1 (hb:aG w w1)=>Us B mp mb n0 v l (aD l) key E w1 hpw hl (aEA hB hb.size) (h.below hb) (he.below hb));have Ii:=Hq (λw1 (hb:aG w w1)=>h.below hb);have hpk:(eT (aD l key) dm df ds n).k=key:=pW l key;have xA:=Hq (λhf=>(wC (l:=l) (p:=eT (aD l key) dm df ds n) hf).symm);have HKN:=Hq (λhf=>(Np (l:=l) (p:=eT (aD l key) dm df ds n) hf).symm);rw [hpk] at xA HKN;have hkk:(aD l key).k=key:=pW l key;clear h he hok hp h1 h2 h3 hpos hff hpw;unfold eT at *;generalize iQ l ⟨(aD l key).k,(aD l key).m+dm*n,(aD l key).f+df*n,(aD l key).s+ds*n⟩=PL at *;generalize hG:aD l=G at *;generalize G key=p at *;obtain⟨pk,pm,pf,ps⟩:=p;dsimp only at *;subst hkk;generalize pm+dm*n=qm at *;generalize pf+df*n=qf at *;generalize ps+ds*n=qs at *;clear hG hpk;open apg in exact awk
namespace Mth
theorem adU {l:List Pu} (hp:l.Pairwise Oz) (k:Nat) (hk:k < l.length):upd (aD (l.take k)) l[k]=aD (l.take (k+1)):=by
 funext key
 have hsub:(l.take (k+1)).Pairwise Oz:=hp.sublist (List.take_sublist _ _);unfold upd;by_cases e:key=l[k].k
 .rw [aER e,e];exact(qZ hsub (List.mem_take_iff_getElem.2 ⟨k,Aaa,rfl⟩)).symm
 .rw [aEG e];unfold aD;rw [aEF hk,List.find?_append]
  have:[l[k]].find? (λp=>p.k.toList == key.toList)=none:=by
   rw [List.find?_eq_none];intro q hq;rw [aEM] at hq;subst hq;simp only[beq_iff_eq];exact λe'=>e (toList_inj e').symm
  rw [this];simp
end Mth
theorem afv:(Tryz.prog.info? 9).map (λi=>(i.zero,i.size,i.bytes))=some (some (.string ⟨#[]⟩),1,16):=Aab
theorem MI (a:Option Addr) (cap:Nat) (l:List Pu) (E:Nat->Addr) (w:World) (hl:l.length<=1048600) (ha:aH w a l) (he:gX w E) (hno:iZ l=false):
 Calls Tryz.prog 297 #[.slice a l.length cap] w (dK w (.tuple #[.pointer none,um (E 3)])):=by
 have nD:=Hq (uD a cap l w hl ha);have HE:=Hq he;clear ha he;go_in
 go_wp2_with fail;refine nD.mono ?_;rintro e w1 ⟨rfl,hb1⟩;rw [hno];have ve:=(HE.below hb1).var 3 Aaa;have HB:=Hq hb1;clear hb1 nD;go_wp2_with fail;go_quiet (fail);go_wp2_with fail;go_ret2
 exact⟨rfl,HB.trans ⟨rfl,rfl,rfl,aEx _,λ_ _=>rfl⟩⟩
theorem I8 (a:Option Addr) (cap:Nat) (l:List Pu) (w:World) (ha:aH w a l) (hks:∀p∈l,p.k.size<=1048576) (hok:iZ l=true):
 Calls Tryz.prog 297 #[.slice a l.length cap] w λe w'=>∃mp mb v,e= .returned (.tuple #[.pointer (some ⟨mp,0,none⟩),.nilIface])/\PM w' w.heap.size mp mb l.length v (l.map (·.k)) (aD l)/\aG w w':=by
 obtain⟨hpu,hpw,hl⟩:=(jQ l).1 hok;have Ij:=Hq hpw;have nD:=Hq (uD a cap l w Aaa ha);have HA:=Hq ha;obtain⟨i0,hi,hz0,hz1,hz2⟩:=aEY afv;have Ti:=Hq hks;have hmm:= @run_makeMap Tryz.prog;clear ha hpw hpu hks;go_in
 go_wp2_with fail;refine nD.mono ?_;rintro e w1 ⟨rfl,hb1⟩;rw [hok];have HB1:=Hq hb1;have hw1:=hb1.size;clear hb1 nD hok;go_wp2_with fail;go_loopw [16] (λi wr=>∃(k:Nat) (aa:Option Addr) (cc:Nat),k<=l.length/\i= .int .i64 k/\PM wr w.heap.size (w1.heap.size+1) w1.heap.size k (.slice aa k cc) ((l.take k).map (·.k)) (aD (l.take k))/\aG w wr) (λi _=>l.length - (intOf i).toNat)
 case atStart=>
  refine⟨0,none,0,aEN _,rfl,⟨?_,?_,?_,Aaa,Aaa⟩,(HB1.alloc Aaa _).alloc Aae _⟩
  .have:=aEu (w1.alloc (.map #[] 0)) (.cells #[.slice none 0 0,.map (some w1.heap.size)] 392);rwa [show(w1.alloc (Obj.map #[] 0)).heap.size=w1.heap.size+1 by simp] at this
  .exact World.ownsRow_nil _ _ _ _
  .exact(iA.made w1).kept (aEI _ _ _ Aac)
 case round=>
  obtain⟨k,aa,cc,hk,rfl,Io,hbel⟩:=hrel;have HP:=Hq Io;have aO:=Hq hbel;have hwr:=hbel.size;clear Io hbel;by_cases hlt:k < l.length
  .obtain⟨g,off,rfl,hgw,c0,c1,c2,c3⟩:=aH.four (GR.At.below HA aO) k hlt;have HUP:=Hq (adU Ij k hlt);have OZ:=Hq (aEF hlt);have hkk:=ah Ti l[k] (aEL hlt);generalize l[k]=pu at *;obtain⟨pk,pm,pf,ps⟩:=pu;dsimp only at c0 c1 c2 c3 hkk;go_upto_region 7 with fail;refine Fo.wp_at (λV hV=>?_);have hbV:aG wr V:=by rw [hV];exact aV wr _
   open aud in exact ag5
  .open anw in exact xE
theorem acs (B mp mb n:Nat) (v:Value) (l:List Pu) (G:ByteArray->Pu) (w:World) (hl:l.length<=20) (hG:∀p∈l,G p.k=p) (hks:∀p∈l,p.k.size<=1048576) (h:PM w B mp mb n v (l.map (·.k)) G):
 Calls Tryz.prog 299 #[.pointer (some ⟨mp,0,none⟩)] w λe w'=>e= .returned (.slice (some ⟨w.heap.size,0,none⟩) l.length l.length)/\sK w' w.heap.size l/\aG w w':=by
 have hrow:=h.row;rw [aFo] at hrow
 obtain⟨a,cap,rfl⟩:∃a cap,v= .slice a l.length cap:=by
  exact aiP
 have hmk:=Df l.length Aaa;have HH:=Hq h;have HG:=Hq hG;have Ti:=Hq hks;have HR:=Hq hrow;obtain⟨⟨m0,m1⟩,_⟩:=lY h.blk;have hmp:=Fo.lt_of_blk h.blk;clear h hG hks hrow;go_in
 go_wp2_with fail;go_loopw [17] (λi wr=>∃k:Nat,k<=l.length/\i= .int .i64 k/\sK wr w.heap.size (l.take k++List.replicate (l.length - k) ⟨ByteArray.empty,0,0,0⟩)/\aG w wr) (λi _=>l.length - (intOf i).toNat)
 case atStart=>exact aiw
 case round=>
  open apc in exact IJ
theorem YA (a:Option Addr) (cap:Nat) (l:List Pu) (key:ByteArray) (dm df ds n:Int) (E:Nat->Addr) (w:World) (hl:l.length<=1048576) (hks:∀p∈l,p.k.size<=1048576) (hkey:key.size<=1048576) (hd1:dm= -1\/dm=0\/dm=1) (hd2:df= -1\/df=0\/df=1) (hd3:ds= -1\/ds=0\/ds=1) (ha:aH w a l) (he:gX w E):
 Calls Tryz.prog 278 #[.slice a l.length cap,.string key,.int .i64 n,shv dm df ds] w λe w'=>aG w w'/\
  (((cK l key dm df ds n).2=false/\∃i,(1<=i/\i < 6)/\e= .returned (.tuple #[.slice none 0 0,um (E i)]))\/
   ((cK l key dm df ds n).2=true/\∃g,w.heap.size<=g/\e= .returned (.tuple #[.slice (some ⟨g,0,none⟩) (cK l key dm df ds n).1.length (cK l key dm df ds n).1.length,.nilIface])/\sK w' g (cK l key dm df ds n).1)):=by
 have hb0:=aV w (.cells #[.int .i64 dm,.int .i64 df,.int .i64 ds] 298);cases hok:iZ l
 .have jD:=Hq (MI a cap l E _ Aaa (GR.At.below ha hb0) (he.below hb0) hok);have HAD:=Hq (J3 (key:=key) (dm:=dm) (df:=df) (ds:=ds) (n:=n) hok);clear ha he hks hok hb0 hd1 hd2 hd3;go_in
  go_wp2_with fail;refine jD.mono ?_;rintro e w1 ⟨rfl,hb1⟩;have HB1:=Hq (Fo.one_block hb1).2.2;clear hb1;go_wp2_with fail;go_ret2
  exact⟨HB1,.inl ⟨by rw [ah HAD],_,Aaa,rfl⟩⟩
 have HOF:=Hq (I8 a cap l _ (GR.At.below ha hb0) hks hok);have HE:=Hq he;cases hkk:keyOk key.data.toList
 .have HK:=Hq (λw1=>Ag key false w1 hkk)
  have HAD:Hid ((cK l key dm df ds n).2=false):=by
   by_cases hn:1<=n/\n<=1000000000
   .rw [LW hok hn,Zv hkk];rfl
   .rw [LY hn];exact Hq rfl
  open auN in exact ahe
 have HK:=Hq (λw1=>Ag key true w1 hkk);by_cases hn:1<=n/\n<=1000000000
 case' neg=>
  have HAD:=Hq (LY (l:=l) (key:=key) (dm:=dm) (df:=df) (ds:=ds) hn)
  have Lv:=Hq (λw1=>aL n false w1 (aEw hn))
  open auM in exact ahe
 have Lv:=Hq (λw1=>aL n true w1 (aEy hn));have hpo:=yZ (l:=l) (key:=key) hok hkk;have u1:=tO hd1 hn;have u2:=tO hd2 hn;have u3:=tO hd3 hn;obtain⟨_,hpw,aB5⟩:=(jQ l).1 hok;have HAI:=Hq (LW (key:=key) (dm:=dm) (df:=df) (ds:=ds) hok hn);have Ti:=Hq hks;cases hsp:gZ (eT (aD l key) dm df ds n)
 .have HMV:=Hq (λB mp mb n0 v w1 (h:PM w1 B mp mb n0 v (l.map (·.k)) (aD l)) (he1:gX w1 E)=>MJ B mp mb n0 v l key dm df ds n E w1 hkey hpo u1 u2 u3 h he1 hsp)
  have HAD:Hid ((cK l key dm df ds n).2=false):=by
   rw [ah HAI,hsp];rfl
  clear ha he hks hok hb0 hd1 hd2 hd3 hkk hpo u1 u2 u3 hpw hsp HAI;open apX in exact awr
 .have HMV:=Hq (λB mp mb n0 v w1 (hB:B<=w1.heap.size) (hn0:n0 < maxLen) (h:PM w1 B mp mb n0 v (l.map (·.k)) (aD l)) (he1:gX w1 E)=>Qh B mp mb n0 v l key dm df ds n E w1 hB hkey hn0 aB5 hpw hpo u1 u2 u3 h he1 hsp);have hkp:(eT (aD l key) dm df ds n).k=key:=pW l key
  have aal:Hid (found l key=false->l.length=20->(cK l key dm df ds n).2=false):=by
   intro hf h20;have hlen:=wD (l:=l) (p:=eT (aD l key) dm df ds n) (by rw [hkp];exact hf);rw [ah HAI,hsp,aEw Aaa];rfl
  have aar:Hid ((found l key=true\/l.length < 20)->cK l key dm df ds n=(iQ l (eT (aD l key) dm df ds n),true)/\(iQ l (eT (aD l key) dm df ds n)).length<=20):=by
   intro hf
   have hlen:(iQ l (eT (aD l key) dm df ds n)).length<=20:=by
    cases hff:found l key
    .have:=wD (l:=l) (p:=eT (aD l key) dm df ds n) (by rw [hkp];exact hff);rcases hf with hf|hf
     .rw [hff] at hf;cases hf
     .omega
    .have:=sQ (l:=l) (p:=eT (aD l key) dm df ds n) (by rw [hkp];exact hff);omega
   rw [ah HAI,hsp,aEy hlen];exact⟨rfl,hlen⟩
  have zq:Hid (∀q∈iQ l (eT (aD l key) dm df ds n),q.k.size<=1048576):=by
   intro q hq;rcases put_mem hq with rfl|hq
   .rw [hkp];exact hkey
   .exact Ti q hq
  have HPA:=Hq (alA hpw (eT (aD l key) dm df ds n));clear ha he hks hok hb0 hd1 hd2 hd3 hkk hpo u1 u2 u3 hpw hsp HAI hkp;generalize iQ l (eT (aD l key) dm df ds n)=PL at *;generalize upd (aD l) (eT (aD l key) dm df ds n)=G2 at *;open apW in exact awr
theorem Mth.addP_no {l:List Pu} {key:ByteArray} {dm df ds n:Int} (h:(cK l key dm df ds n).2=false):(cK l key dm df ds n).1=l:=by
 exact ajf
def jK (w:World) (r:List Pu×Bool) (e:Ending) (w':World):Prop:=∃a c g,w.heap.size<=g/\e= .returned (.tuple #[.slice a r.1.length c,.bool r.2])/\xC w' a g r.1/\aG w w'
theorem Ah (a:Option Addr) (cap:Nat) (l:List Pu) (key:ByteArray) (dm df ds n:Int) (E:Nat->Addr) (w:World) (hl:l.length<=1048576) (hks:∀p∈l,p.k.size<=1048576) (hkey:key.size<=1048576) (hd1:dm= -1\/dm=0\/dm=1) (hd2:df= -1\/df=0\/df=1) (hd3:ds= -1\/ds=0\/ds=1) (ha:aH w a l) (he:gX w E):
 Calls Tryz.prog 244 #[.slice a l.length cap,.string key,.int .i64 n,shv dm df ds] w (jK w (cK l key dm df ds n)):=by
 have hb0:=aV w (.cells #[.int .i64 dm,.int .i64 df,.int .i64 ds] 298);have HMV:=Hq (YA a cap l key dm df ds n E _ hl hks hkey hd1 hd2 hd3 (GR.At.below ha hb0) (he.below hb0));have HE:=Hq he;have Ol:=Hq (λw1 (hb:aG w w1)=>Qe a cap l w1 hl hks (GR.At.below ha hb));have jD:=Hq (addP_no (l:=l) (key:=key) (dm:=dm) (df:=df) (ds:=ds) (n:=n));clear ha he hks hb0 hd1 hd2 hd3;generalize cK l key dm df ds n=r at *;obtain⟨L,bo⟩:=r;dsimp only at HMV jD;unfold jK;go_in
 go_wp2_with fail;refine HMV.mono ?_;rintro e w1 ⟨hb1,hcase⟩;have HB1:=Hq (Fo.one_block hb1).2.2;have HS:=Hq hb1.size;clear hb1 HMV;rcases hcase with⟨hno,i,hi,rfl⟩|⟨hyes,g,hg,rfl,hblk⟩
 .have hL:=ah jD hno;subst hno hL;have HIR:=Hq (MZ (HE.below HB1) i hi);have HCX:=Hq (Ol _ HB1);clear Ol jD;go_wp2_with fail;refine HIR.mono ?_;rintro e w2 ⟨rfl,rfl⟩;go_wp2_with fail;refine HCX.mono ?_;rintro e w3 ⟨a3,c3,g3,hg3,rfl,hblk3,hb3⟩;have VQ:=Hq hblk3;have HB3:=Hq (HB1.trans (hb3.mono HB1.size));clear hblk3 hb3;go_wp2_with fail;go_ret2
  exact⟨_,_,g3,aEA HB1.size hg3,rfl,VQ,HB3⟩
 .subst hyes;have HIR:=Hq (Jg (HE.below HB1));have HK:=Hq hblk;have hge:w.heap.size<=g:=by have:=ah HS;simp at hg;omega
  clear Ol jD hblk;go_wp2_with fail;refine HIR.mono ?_;rintro e w2 ⟨rfl,rfl⟩;go_wp2_with fail;go_ret2
  exact⟨_,_,g,hge,rfl,xC.of_blk HK,HB1⟩
theorem acv (hl:l.length<=1048576) (hks:∀p∈l,p.k.size<=1048576) (hkey:key.size<=1048576) (ha:aH w a l) (he:gX w E):
 Calls Tryz.prog 220 #[.slice a l.length cap,.string key,.int .i64 n] w (jK w (cK l key (1) (1) (0) n)):=by
 have H:=Hq (Ah a cap l key (1) (1) (0) n E w hl hks hkey Aaa Aaa Aaa ha he);clear ha he hks;generalize cK l key (1) (1) (0) n=r at *;unfold jK at *;go_in
 exact abr
theorem acn (hl:l.length<=1048576) (hks:∀p∈l,p.k.size<=1048576) (hkey:key.size<=1048576) (ha:aH w a l) (he:gX w E):
 Calls Tryz.prog 284 #[.slice a l.length cap,.string key,.int .i64 n] w (jK w (cK l key (0) (1) (0) n)):=by
 have H:=Hq (Ah a cap l key (0) (1) (0) n E w hl hks hkey Aaa Aaa Aaa ha he);clear ha he hks;generalize cK l key (0) (1) (0) n=r at *;unfold jK at *;go_in
 exact abr
theorem acw (hl:l.length<=1048576) (hks:∀p∈l,p.k.size<=1048576) (hkey:key.size<=1048576) (ha:aH w a l) (he:gX w E):
 Calls Tryz.prog 250 #[.slice a l.length cap,.string key,.int .i64 n] w (jK w (cK l key (0) (-1) (0) n)):=by
 have H:=Hq (Ah a cap l key (0) (-1) (0) n E w hl hks hkey Aaa Aaa Aaa ha he);clear ha he hks;generalize cK l key (0) (-1) (0) n=r at *;unfold jK at *;go_in
 exact abr
theorem YF (hl:l.length<=1048576) (hks:∀p∈l,p.k.size<=1048576) (hkey:key.size<=1048576) (ha:aH w a l) (he:gX w E):
 Calls Tryz.prog 222 #[.slice a l.length cap,.string key,.int .i64 n] w (jK w (cK l key (0) (-1) (1) n)):=by
 have H:=Hq (Ah a cap l key (0) (-1) (1) n E w hl hks hkey Aaa Aaa Aaa ha he);clear ha he hks;generalize cK l key (0) (-1) (1) n=r at *;unfold jK at *;go_in
 exact abr
theorem Qn (hl:l.length<=1048576) (hks:∀p∈l,p.k.size<=1048576) (hkey:key.size<=1048576) (ha:aH w a l) (he:gX w E):
 Calls Tryz.prog 224 #[.slice a l.length cap,.string key,.int .i64 n] w (jK w (cK l key (0) (1) (-1) n)):=by
 have H:=Hq (Ah a cap l key (0) (1) (-1) n E w hl hks hkey Aaa Aaa Aaa ha he);clear ha he hks;generalize cK l key (0) (1) (-1) n=r at *;unfold jK at *;go_in
 exact abr
theorem acr (a:Option Addr) (cap:Nat) (l:List Int) (n:Int) (w:World) (hl:l.length<=1048600) (ha:aK w a l):
 Calls Tryz.prog 45 #[ZV a l cap,.int .i64 n] w λe w'=>∃v,e= .returned v/\w'.ownsRow w.heap.size 3 1 v (yc l n).length (GR.flat aW (yc l n))/\aG w w':=by
 obtain⟨i0,hi,hz0,hz1,hz2⟩:=aEY Qp;have HA:=Hq ha;clear ha;go_in
 go_wp2_with fail;go_loopw [5,11] (λv i wr=>∃k:Nat,k<=l.length/\i= .int .i64 k/\wr.ownsRow w.heap.size 3 1 v (jw l n k).length (GR.flat aW (jw l n k))/\aG w wr) (λ_ i _=>l.length - (intOf i).toNat)
 case atStart=>exact⟨0,aEN _,rfl,World.ownsRow_nil _ _ _ _,aV w _⟩
 case round=>
  obtain⟨k,hk,rfl,hown,hbel⟩:=hrel;have aO:=Hq hbel;clear hbel;by_cases hlt:k < l.length
  .have hlen:=FY l n k;obtain⟨g,off,rfl,hgw,q0⟩:=aK.one (GR.At.below HA aO) k hlt;by_cases hkn:l[k]=n
   .open au8 in exact ahn
   .have HY:=Hq (Ch l n k hlt hkn);generalize l[k]=pu at *;have hnn:(pu == n)=false:=by simpa using hkn
    go_wp2_with fail;go_roundw
    case rel=>exact⟨k+1,Aaa,Aaf,by rw [ah HY];exact hown,aO⟩
    case measure=>simp[intOf];omega
  .have hke:k=l.length:=Aaa
   subst hke;have hd:decide ((l.length:Int) < (l.length:Int))=false:=Aac
   go_wp2_with fail;go_ret;exact⟨_,rfl,hown,aO⟩
end Go.Proofs.YtfachhcijcjbpaaGreatDoor
