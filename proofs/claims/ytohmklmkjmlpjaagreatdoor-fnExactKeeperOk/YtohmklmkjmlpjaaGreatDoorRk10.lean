/- Parts. -/
import Derived.Test.YtohmklmkjmlpjaaGreatDoorRk9
import Derived.Test.YtohmklmkjmlpjaaGreatDoorRk6
namespace Go.Proofs.YtohmklmkjmlpjaaGreatDoor
open Go.Proofs.Tryz
set_option maxHeartbeats 4000000
open Go.RowKit Go.Maps
open Mth
variable (a:Option Addr) (cap:Nat) (l:List Pu) (key:ByteArray) (n:Int) (E:Nat->Addr) (w:World) {B mb mp g:Nat} {v:Value} {G:ByteArray->Pu} {ks:List ByteArray} {w':World} {xs:List Value}
structure PM (w:World) (B mp mb n:Nat) (v:Value) (ks:List ByteArray) (G:ByteArray->Pu):Prop where
 blk:w.heap[mp]?=some (.cells #[v,.map (some mb)] 352 (0,0))
 row:w.ownsRow B 9 1 v ks.length (ks.map Value.string)
 map:iK w mb n G
 lop:B<=mp
 lom:B<=mb
theorem own_ne {w:World} {n:Nat} {t:TypeId} {cs:Array Value} {fr:Nat×Nat} (h:w.ownsRow B 9 1 v n xs) (hg:w.heap[g]?=some (.cells cs t fr)) (ht:t≠9):v.ownBlock≠some g:=by
 rcases h.2 with⟨rfl,_⟩|⟨g',cap,cur,rfl,_,hb,_⟩
 .intro e;cases e
 .intro e;injection e with e
  have e':g'=g:=e;subst e';rw [hg] at hb;injection hb with hb
  injection hb with h1 h2 h3
  exact ht h2
theorem yu {w:World} {n:Nat} {es:Array MapEntry} {clock:Nat} (h:w.ownsRow B 9 1 v n xs) (hg:w.heap[g]?=some (.map es clock)):v.ownBlock≠some g:=by
 rcases h.2 with⟨rfl,_⟩|⟨g',cap,cur,rfl,_,hb,_⟩
 .intro e;cases e
 .intro e;injection e with e
  have e':g'=g:=e;subst e';rw [hg] at hb;cases hb
theorem iK.blk {w:World} {n:Nat} (h:iK w mb n G):∃es clock,w.heap[mb]?=some (.map es clock):=by
 obtain⟨D,⟨es,clock,h1,_⟩,_⟩:=h;exact⟨es,clock,h1⟩
theorem PM.mpmb {w:World} {n:Nat} (h:PM w B mp mb n v ks G):mp≠mb:=by
 obtain⟨es,clock,hb⟩:=h.map.blk;intro e;have:=h.blk;rw [e,hb] at this;cases this
theorem PM.below {w:World} {n:Nat} (h:PM w B mp mb n v ks G) (hb:aI w w'):PM w' B mp mb n v ks G:=by
 have hg:w.grownBy w' none:=⟨hb.os,hb.tape,hb.output,hb.size,λk hk _=>hb.block k hk⟩;refine⟨?_,?_,?_,h.lop,h.lom⟩
 .rw [hb.block _ (Fo.lt_of_blk h.blk)];exact h.blk
 .refine h.row.kept hg ?_;exact aiA
 .exact h.map.kept (hb.block _ h.map.lt)
theorem PM.drewN {w:World} {n q:Nat} (h:PM w B mp mb n v ks G):PM (w.drewN q) B mp mb n v ks G:=⟨h.blk,h.row,h.map,h.lop,h.lom⟩
theorem PM.turned {w:World} {n n':Nat} {G':ByteArray->Pu} (h:PM w B mp mb n v ks G) (hk:Keeps mb w w') (hm:iK w' mb n' G'):PM w' B mp mb n' v ks G':=by
 have hg:w.grownBy w' (some mb):=⟨hk.os,hk.tape,hk.output,hk.size,λk hl hne=>hk.block k hl (λe=>hne Aao)⟩;obtain⟨es,clock,hb⟩:=h.map.blk;refine⟨?_,?_,hm,h.lop,h.lom⟩
 .rw [hk.block _ (Fo.lt_of_blk h.blk) h.mpmb];exact h.blk
 .refine h.row.kept hg (.inr (yu h.row hb))
theorem Ck {w:World} (hk:Keeps g w w') (hg:B<=g) (hB:B<=w.heap.size):Below B w w':=⟨hk.os,hk.tape,hk.output,hk.size,λk hl=>hk.block k Aaa Aaa⟩
set_option maxRecDepth 100000
open Go.RowKit
abbrev shv (dm df ds:Int):Value:= .agg #[.int .i64 dm,.int .i64 df,.int .i64 ds]
theorem Ae {w w1:World} {A B C:Obj} (hb:Below (((w.alloc A).alloc B).alloc C).heap.size (((w.alloc A).alloc B).alloc C) w1):
 w1.heap[w.heap.size]?=some A/\w1.heap[w.heap.size+1+1]?=some C/\aI w w1:=by
 have hs:(((w.alloc A).alloc B).alloc C).heap.size=w.heap.size+1+1+1:=Aac
 refine⟨?_,?_,((((Below.refl _ _).alloc (Nat.le_refl _) _).alloc Aac _).alloc Aag _).trans (hb.mono Aaa)⟩
 .rw [hb.block _ Aaa,Below.heap_alloc _ _ _ Aag,Below.heap_alloc _ _ _ Aac];exact heap_alloc_new w A
 .rw [hb.block _ Aaa];have h:=heap_alloc_new ((w.alloc A).alloc B) C;rwa [show((w.alloc A).alloc B).heap.size=w.heap.size+1+1 by simp] at h
theorem Ll (p:Pu) (dm df ds n:Int) (w:World) (hp:iy p=true) (h1:-1000000000<=dm*n/\dm*n<=1000000000) (h2:-1000000000<=df*n/\df*n<=1000000000) (h3:-1000000000<=ds*n/\ds*n<=1000000000) (hf:0<=p.f+df*n) (hs:0<=p.s+ds*n) (hok:iy (eP p dm df ds n)=true):
 Calls prog 303 #[wS p,shv dm df ds,.int .i64 n] w (eG w (.tuple #[wS (eP p dm df ds n),.nilIface])):=by
 have HO:=Hq (λw1=>oU (eP p dm df ds n) true w1 hok);open anY in exact ajy
theorem Bq (p:Pu) (dm df ds n:Int) (E:Nat->Addr) (w:World) (hp:iy p=true) (h1:-1000000000<=dm*n/\dm*n<=1000000000) (h2:-1000000000<=df*n/\df*n<=1000000000) (h3:-1000000000<=ds*n/\ds*n<=1000000000) (hf:0<=p.f+df*n) (hs:0<=p.s+ds*n) (hok:iy (eP p dm df ds n)=false) (he:iG w E):
 Calls prog 303 #[wS p,shv dm df ds,.int .i64 n] w (eG w (.tuple #[wS ⟨⟨#[]⟩,0,0,0⟩,tJ (E 5)])):=by
 have HO:=Hq (λw1=>oU (eP p dm df ds n) false w1 hok);have HE:=Hq he;open anX in exact ajy
theorem Dc (p:Pu) (dm df ds n:Int) (E:Nat->Addr) (w:World) (hp:iy p=true) (h1:-1000000000<=dm*n/\dm*n<=1000000000) (h2:-1000000000<=df*n/\df*n<=1000000000) (h3:-1000000000<=ds*n/\ds*n<=1000000000) (hf:p.f+df*n < 0\/0<=p.f+df*n/\p.s+ds*n < 0) (he:iG w E):
 Calls prog 303 #[wS p,shv dm df ds,.int .i64 n] w (eG w (.tuple #[wS ⟨⟨#[]⟩,0,0,0⟩,tJ (E 4)])):=by
 have HE:=Hq he;have hve:4 < w.heap.size:=World.block_lt_of_cell? _ _ (he.var 4 Aaa);open anW in exact ajy
def Pq (l:List Pu) (key:ByteArray):List ByteArray:=(l.map (·.k)).take (place l key)++key::(l.map (·.k)).drop (place l key)
theorem abQ (l:List Pu) (key:ByteArray):wR (l.map (·.k)) (place l key) key=(Pq l key).map Value.string:=by
 unfold wR Pq;simp
theorem Ci (l:List Pu) (key:ByteArray):(Pq l key).length=l.length+1:=by
 unfold Pq;have:=lT l key;simp;omega
theorem Ma {l:List Pu} {p:Pu} (h:found l p.k=false):(jd l p).map (·.k)=Pq l p.k:=by
 rw [xw h];unfold Pq;simp
theorem Tg (B mp mb n:Nat) (v:Value) (l:List Pu) (G:ByteArray->Pu) (key:ByteArray) (E:Nat->Addr) (w:World) (hp:l.Pairwise Lv) (hl:l.length<=20) (hB:B<=w.heap.size) (h:PM w B mp mb n v (l.map (·.k)) G) (he:iG w E):
 Calls prog 304 #[.pointer (some ⟨mp,0,none⟩),.string key] w λe w'=>Below B w w'/\(∀k,k < w.heap.size->k≠mp->v.ownBlock≠some k->w'.heap[k]?=w.heap[k]?)/\
  ((found l key=true/\e= .returned .nilIface/\PM w' B mp mb n v (l.map (·.k)) G)\/
   (found l key=false/\l.length=20/\e= .returned (tJ (E 5)))\/
   (found l key=false/\l.length < 20/\e= .returned .nilIface/\∃v',PM w' B mp mb n v' (Pq l key) G)):=by
 have hrow:=h.row;rw [List.length_map] at hrow
 obtain⟨a,cap,rfl⟩:∃a cap,v= .slice a l.length cap:=by
  exact aib
 have HBS:=Hq (axN B _ l key w hp hl hrow);have hmp:=Fo.lt_of_blk h.blk;have hmb:=h.map.lt;obtain⟨⟨m0,m1⟩,f0,f1⟩:=lW h.blk;have ve:=he.var 5 Aaa;have HH:=Hq h;have HR:=Hq hrow;clear h hrow he;cases hf:found l key
 .by_cases h20:l.length=20
  .have ayl:((l.length:Int) == 20)=true:=Aag
   have H20:=Hq h20;clear h20;open atm in exact ZR
  .have ayl:((l.length:Int) == 20)=false:=Aag
   open atl in exact ZR
 .open atj in exact ZR
theorem Hl (p:Pu) (dm df ds n:Int) (E:Nat->Addr) (w:World) (hp:iy p=true) (h1:-1000000000<=dm*n/\dm*n<=1000000000) (h2:-1000000000<=df*n/\df*n<=1000000000) (h3:-1000000000<=ds*n/\ds*n<=1000000000) (hok:iy (eP p dm df ds n)=false) (he:iG w E):
 Calls prog 303 #[wS p,shv dm df ds,.int .i64 n] w λe w'=>∃i,(1<=i/\i < 6)/\e= .returned (.tuple #[wS ⟨⟨#[]⟩,0,0,0⟩,tJ (E i)])/\aI w w':=by
 by_cases hf:p.f+df*n < 0\/0<=p.f+df*n/\p.s+ds*n < 0
 .exact(Dc p dm df ds n E w hp h1 h2 h3 hf he).mono λe w' ⟨h,hb⟩=>⟨_,Aaa,h,hb⟩
 .exact(Bq p dm df ds n E w hp h1 h2 h3 Aaa Aaa hok he).mono λe w' ⟨h,hb⟩=>⟨_,Aaa,h,hb⟩
theorem Lh (B mp mb n0:Nat) (v:Value) (l:List Pu) (key:ByteArray) (dm df ds n:Int) (E:Nat->Addr) (w:World) (hkey:key.size<=1048576) (hp:iy (aD l key)=true) (h1:-1000000000<=dm*n/\dm*n<=1000000000) (h2:-1000000000<=df*n/\df*n<=1000000000) (h3:-1000000000<=ds*n/\ds*n<=1000000000) (h:PM w B mp mb n0 v (l.map (·.k)) (aD l)) (he:iG w E) (hok:iy (eP (aD l key) dm df ds n)=false):
 Calls prog 286 #[.pointer (some ⟨mp,0,none⟩),.string key,.int .i64 n,shv dm df ds] w λe w'=>∃i,(1<=i/\i < 6)/\e= .returned (tJ (E i))/\aI w w':=by
 have Nq:=Hq (λw1 (hb:aI w w1)=>Le mp mb n0 v (aD l) key w1 hkey (h.below hb).blk (h.below hb).map);have HSH:=Hq (λw1 (hb:aI w w1)=>Hl (aD l key) dm df ds n E w1 hp h1 h2 h3 hok (he.below hb));clear h he hok hp h1 h2 h3;generalize aD l key=p at *;obtain⟨pk,pm,pf,ps⟩:=p;open aoL in exact awm
theorem Pd (B mp mb n0:Nat) (v:Value) (l:List Pu) (key:ByteArray) (dm df ds n:Int) (E:Nat->Addr) (w:World) (hB:B<=w.heap.size) (hkey:key.size<=1048576) (hn0:n0 < maxLen) (hl:l.length<=20) (hpw:l.Pairwise Lv) (hp:iy (aD l key)=true) (h1:-1000000000<=dm*n/\dm*n<=1000000000) (h2:-1000000000<=df*n/\df*n<=1000000000) (h3:-1000000000<=ds*n/\ds*n<=1000000000) (h:PM w B mp mb n0 v (l.map (·.k)) (aD l)) (he:iG w E) (hok:iy (eP (aD l key) dm df ds n)=true):
 Calls prog 286 #[.pointer (some ⟨mp,0,none⟩),.string key,.int .i64 n,shv dm df ds] w λe w'=>Below B w w'/\
  ((found l key=false/\l.length=20/\e= .returned (tJ (E 5)))\/
   ((found l key=true\/l.length < 20)/\e= .returned .nilIface/\∃v',PM w' B mp mb (n0+1) v' ((jd l (eP (aD l key) dm df ds n)).map (·.k)) (upd (aD l) (eP (aD l key) dm df ds n)))):=by
 have hpos:iy (eP (aD l key) dm df ds n)=true:=hok
 have hff:0<=(aD l key).f+df*n/\0<=(aD l key).s+ds*n:=by
  unfold iy at hpos;simp only[Bool.and_eq_true] at hpos;have b2:0<=(aD l key).f+df*n/\(aD l key).f+df*n<=1000000000:=of_decide_eq_true hpos.1.1.2;have b3:0<=(aD l key).s+ds*n/\(aD l key).s+ds*n<=1000000000:=of_decide_eq_true hpos.1.2;exact⟨b2.1,b3.1⟩
 have Nq:=Hq (λw1 (hb:aI w w1)=>Le mp mb n0 v (aD l) key w1 hkey (h.below hb).blk (h.below hb).map);have HSH:=Hq (λw1 (hb:aI w w1)=>Ll (aD l key) dm df ds n w1 hp h1 h2 h3 hff.1 hff.2 hok);have adj:=Hq (λw1 (hb:aI w w1)=>Tg B mp mb n0 v l (aD l) key E w1 hpw hl (Nat.le_trans hB hb.size) (h.below hb) (he.below hb));have HPM:=Hq (λw1 (hb:aI w w1)=>h.below hb);have hpk:(eP (aD l key) dm df ds n).k=key:=oV l key;have sZ:=Hq (λhf=>(vK (l:=l) (p:=eP (aD l key) dm df ds n) hf).symm);have HKN:=Hq (λhf=>(Ma (l:=l) (p:=eP (aD l key) dm df ds n) hf).symm);rw [hpk] at sZ HKN;have hkk:(aD l key).k=key:=oV l key;clear h he hok hp h1 h2 h3 hpos hff hpw;unfold eP at *;generalize jd l ⟨(aD l key).k,(aD l key).m+dm*n,(aD l key).f+df*n,(aD l key).s+ds*n⟩=PL at *;generalize hG:aD l=G at *;generalize G key=p at *;obtain⟨pk,pm,pf,ps⟩:=p;dsimp only at *;subst hkk;generalize pm+dm*n=qm at *;generalize pf+df*n=qf at *;generalize ps+ds*n=qs at *;clear hG hpk;open aoK in exact awm
namespace Mth
theorem ac7 {l:List Pu} (hp:l.Pairwise Lv) (k:Nat) (hk:k < l.length):upd (aD (l.take k)) l[k]=aD (l.take (k+1)):=by
 funext key
 have hsub:(l.take (k+1)).Pairwise Lv:=hp.sublist (List.take_sublist _ _);unfold upd;by_cases e:key=l[k].k
 .rw [if_pos e,e];exact(qJ hsub (List.mem_take_iff_getElem.2 ⟨k,Aaa,rfl⟩)).symm
 .rw [if_neg e];unfold aD;rw [List.take_succ_eq_append_getElem hk,List.find?_append]
  have:[l[k]].find? (λp=>p.k.toList == key.toList)=none:=by
   rw [List.find?_eq_none];intro q hq;rw [List.mem_singleton] at hq;subst hq;simp only[beq_iff_eq];exact λe'=>e (toList_inj e').symm
  rw [this];simp
end Mth
theorem aeC:(Tryz.prog.info? 9).map (λi=>(i.zero,i.size,i.bytes))=some (some (.string ⟨#[]⟩),1,16):=Aab
theorem Lg (a:Option Addr) (cap:Nat) (l:List Pu) (E:Nat->Addr) (w:World) (hl:l.length<=1048600) (ha:aG w a l) (he:iG w E) (hno:jk l=false):
 Calls Tryz.prog 285 #[.slice a l.length cap] w (eG w (.tuple #[.pointer none,tJ (E 3)])):=by
 have nS:=Hq (tQ a cap l w hl ha);have HE:=Hq he;clear ha he;go_in
 go_wp2_with fail;refine nS.mono ?_;rintro e w1 ⟨rfl,hb1⟩;rw [hno];have ve:=(HE.below hb1).var 3 Aaa;have HB:=Hq hb1;clear hb1 nS;go_wp2_with fail;go_quiet (fail);go_wp2_with fail;go_ret2
 exact⟨rfl,HB.trans ⟨rfl,rfl,rfl,Nat.le_refl _,λ_ _=>rfl⟩⟩
theorem GU (a:Option Addr) (cap:Nat) (l:List Pu) (w:World) (ha:aG w a l) (hks:∀p∈l,p.k.size<=1048576) (hok:jk l=true):
 Calls Tryz.prog 285 #[.slice a l.length cap] w λe w'=>∃mp mb v,e= .returned (.tuple #[.pointer (some ⟨mp,0,none⟩),.nilIface])/\PM w' w.heap.size mp mb l.length v (l.map (·.k)) (aD l)/\aI w w':=by
 obtain⟨hpu,hpw,hl⟩:=(jR l).1 hok;have Gg:=Hq hpw;have nS:=Hq (tQ a cap l w Aaa ha);have HA:=Hq ha;obtain⟨i0,hi,hz0,hz1,hz2⟩:=info_parts aeC;have Ro:=Hq hks;have hmm:= @run_makeMap Tryz.prog;clear ha hpw hpu hks;go_in
 go_wp2_with fail;refine nS.mono ?_;rintro e w1 ⟨rfl,hb1⟩;rw [hok];have HB1:=Hq hb1;have hw1:=hb1.size;clear hb1 nS hok;go_wp2_with fail;go_loopw [16] (λi wr=>∃(k:Nat) (aa:Option Addr) (cc:Nat),k<=l.length/\i= .int .i64 k/\PM wr w.heap.size (w1.heap.size+1) w1.heap.size k (.slice aa k cc) ((l.take k).map (·.k)) (aD (l.take k))/\aI w wr) (λi _=>l.length - (intOf i).toNat)
 case atStart=>
  refine⟨0,none,0,Nat.zero_le _,rfl,⟨?_,?_,?_,Aaa,Aaa⟩,(HB1.alloc Aaa _).alloc Aag _⟩
  .have:=heap_alloc_new (w1.alloc (.map #[] 0)) (.cells #[.slice none 0 0,.map (some w1.heap.size)] 352);rwa [show(w1.alloc (Obj.map #[] 0)).heap.size=w1.heap.size+1 by simp] at this
  .exact World.ownsRow_nil _ _ _ _
  .exact(iK.made w1).kept (Below.heap_alloc _ _ _ Aac)
 case round=>
  obtain⟨k,aa,cc,hk,rfl,Gi,hbel⟩:=hrel;have HP:=Hq Gi;have cK:=Hq hbel;have hwr:=hbel.size;clear Gi hbel;by_cases hlt:k < l.length
  .obtain⟨g,off,rfl,hgw,c0,c1,c2,c3⟩:=aG.four (GR.At.below HA cK) k hlt;have HUP:=Hq (ac7 Gg k hlt);have NJ:=Hq (List.take_succ_eq_append_getElem hlt);have hkk:=ah Ro l[k] (List.getElem_mem hlt);generalize l[k]=pu at *;obtain⟨pk,pm,pf,ps⟩:=pu;dsimp only at c0 c1 c2 c3 hkk;go_upto_region 7 with fail;refine Fo.wp_at (λV hV=>?_);have hbV:aI wr V:=by rw [hV];exact dS wr _
   open auk in exact agv
  .open anE in exact xL
theorem abH (B mp mb n:Nat) (v:Value) (l:List Pu) (G:ByteArray->Pu) (w:World) (hl:l.length<=20) (hG:∀p∈l,G p.k=p) (hks:∀p∈l,p.k.size<=1048576) (h:PM w B mp mb n v (l.map (·.k)) G):
 Calls Tryz.prog 287 #[.pointer (some ⟨mp,0,none⟩)] w λe w'=>e= .returned (.slice (some ⟨w.heap.size,0,none⟩) l.length l.length)/\rQ w' w.heap.size l/\aI w w':=by
 have hrow:=h.row;rw [List.length_map] at hrow
 obtain⟨a,cap,rfl⟩:∃a cap,v= .slice a l.length cap:=by
  exact aib
 have hmk:=Cm l.length Aaa;have HH:=Hq h;have HG:=Hq hG;have Ro:=Hq hks;have HR:=Hq hrow;obtain⟨⟨m0,m1⟩,_⟩:=lW h.blk;have hmp:=Fo.lt_of_blk h.blk;clear h hG hks hrow;go_in
 go_wp2_with fail;go_loopw [17] (λi wr=>∃k:Nat,k<=l.length/\i= .int .i64 k/\rQ wr w.heap.size (l.take k++List.replicate (l.length - k) ⟨ByteArray.empty,0,0,0⟩)/\aI w wr) (λi _=>l.length - (intOf i).toNat)
 case atStart=>exact ahS
 case round=>
  open ap7 in exact R4
theorem Xk (a:Option Addr) (cap:Nat) (l:List Pu) (key:ByteArray) (dm df ds n:Int) (E:Nat->Addr) (w:World) (hl:l.length<=1048576) (hks:∀p∈l,p.k.size<=1048576) (hkey:key.size<=1048576) (hd1:dm= -1\/dm=0\/dm=1) (hd2:df= -1\/df=0\/df=1) (hd3:ds= -1\/ds=0\/ds=1) (ha:aG w a l) (he:iG w E):
 Calls Tryz.prog 260 #[.slice a l.length cap,.string key,.int .i64 n,shv dm df ds] w λe w'=>aI w w'/\
  (((dJ l key dm df ds n).2=false/\∃i,(1<=i/\i < 6)/\e= .returned (.tuple #[.slice none 0 0,tJ (E i)]))\/
   ((dJ l key dm df ds n).2=true/\∃g,w.heap.size<=g/\e= .returned (.tuple #[.slice (some ⟨g,0,none⟩) (dJ l key dm df ds n).1.length (dJ l key dm df ds n).1.length,.nilIface])/\rQ w' g (dJ l key dm df ds n).1)):=by
 have hb0:=dS w (.cells #[.int .i64 dm,.int .i64 df,.int .i64 ds] 258);cases hok:jk l
 .have l7:=Hq (Lg a cap l E _ Aaa (GR.At.below ha hb0) (he.below hb0) hok);have HAD:=Hq (Jj (key:=key) (dm:=dm) (df:=df) (ds:=ds) (n:=n) hok);clear ha he hks hok hb0 hd1 hd2 hd3;go_in
  go_wp2_with fail;refine l7.mono ?_;rintro e w1 ⟨rfl,hb1⟩;have HB1:=Hq (Fo.one_block hb1).2.2;clear hb1;go_wp2_with fail;go_ret2
  exact⟨HB1,.inl ⟨by rw [ah HAD],_,Aaa,rfl⟩⟩
 have HOF:=Hq (GU a cap l _ (GR.At.below ha hb0) hks hok);have HE:=Hq he;cases hkk:keyOk key.data.toList
 .have HK:=Hq (λw1=>zx key false w1 hkk)
  have HAD:Hid ((dJ l key dm df ds n).2=false):=by
   by_cases hn:1<=n/\n<=1000000000
   .rw [Kr hok hn,Yb hkk];rfl
   .rw [Kt hn];exact Hq rfl
  open auM in exact agF
 have HK:=Hq (λw1=>zx key true w1 hkk);by_cases hn:1<=n/\n<=1000000000
 case' neg=>
  have HAD:=Hq (Kt (l:=l) (key:=key) (dm:=dm) (df:=df) (ds:=ds) hn)
  have Ga:=Hq (λw1=>aP n false w1 (decide_eq_false hn))
  open auL in exact agF
 have Ga:=Hq (λw1=>aP n true w1 (decide_eq_true hn));have hpo:=yx (l:=l) (key:=key) hok hkk;have u1:=sQ hd1 hn;have u2:=sQ hd2 hn;have u3:=sQ hd3 hn;obtain⟨_,hpw,aBV⟩:=(jR l).1 hok;have HAI:=Hq (Kr (key:=key) (dm:=dm) (df:=df) (ds:=ds) hok hn);have Ro:=Hq hks;cases hsp:iy (eP (aD l key) dm df ds n)
 .have YC:=Hq (λB mp mb n0 v w1 (h:PM w1 B mp mb n0 v (l.map (·.k)) (aD l)) (he1:iG w1 E)=>Lh B mp mb n0 v l key dm df ds n E w1 hkey hpo u1 u2 u3 h he1 hsp)
  have HAD:Hid ((dJ l key dm df ds n).2=false):=by
   rw [ah HAI,hsp];rfl
  clear ha he hks hok hb0 hd1 hd2 hd3 hkk hpo u1 u2 u3 hpw hsp HAI;open apq in exact awu
 .have YC:=Hq (λB mp mb n0 v w1 (hB:B<=w1.heap.size) (hn0:n0 < maxLen) (h:PM w1 B mp mb n0 v (l.map (·.k)) (aD l)) (he1:iG w1 E)=>Pd B mp mb n0 v l key dm df ds n E w1 hB hkey hn0 aBV hpw hpo u1 u2 u3 h he1 hsp);have hkp:(eP (aD l key) dm df ds n).k=key:=oV l key
  have Y7:Hid (found l key=false->l.length=20->(dJ l key dm df ds n).2=false):=by
   intro hf h20;have hlen:=vL (l:=l) (p:=eP (aD l key) dm df ds n) (by rw [hkp];exact hf);rw [ah HAI,hsp,decide_eq_false Aaa];rfl
  have Zj:Hid ((found l key=true\/l.length < 20)->dJ l key dm df ds n=(jd l (eP (aD l key) dm df ds n),true)/\(jd l (eP (aD l key) dm df ds n)).length<=20):=by
   intro hf
   have hlen:(jd l (eP (aD l key) dm df ds n)).length<=20:=by
    cases hff:found l key
    .have:=vL (l:=l) (p:=eP (aD l key) dm df ds n) (by rw [hkp];exact hff);rcases hf with hf|hf
     .rw [hff] at hf;cases hf
     .omega
    .have:=rR (l:=l) (p:=eP (aD l key) dm df ds n) (by rw [hkp];exact hff);omega
   rw [ah HAI,hsp,decide_eq_true hlen];exact⟨rfl,hlen⟩
  have Rc:Hid (∀q∈jd l (eP (aD l key) dm df ds n),q.k.size<=1048576):=by
   intro q hq;rcases put_mem hq with rfl|hq
   .rw [hkp];exact hkey
   .exact Ro q hq
  have HPA:=Hq (akT hpw (eP (aD l key) dm df ds n));clear ha he hks hok hb0 hd1 hd2 hd3 hkk hpo u1 u2 u3 hpw hsp HAI hkp;generalize jd l (eP (aD l key) dm df ds n)=PL at *;generalize upd (aD l) (eP (aD l key) dm df ds n)=G2 at *;open apo in exact awu
theorem Mth.addP_no {l:List Pu} {key:ByteArray} {dm df ds n:Int} (h:(dJ l key dm df ds n).2=false):(dJ l key dm df ds n).1=l:=by
 exact aiL
def jM (w:World) (r:List Pu×Bool) (e:Ending) (w':World):Prop:=∃a c g,w.heap.size<=g/\e= .returned (.tuple #[.slice a r.1.length c,.bool r.2])/\wK w' a g r.1/\aI w w'
theorem zy (a:Option Addr) (cap:Nat) (l:List Pu) (key:ByteArray) (dm df ds n:Int) (E:Nat->Addr) (w:World) (hl:l.length<=1048576) (hks:∀p∈l,p.k.size<=1048576) (hkey:key.size<=1048576) (hd1:dm= -1\/dm=0\/dm=1) (hd2:df= -1\/df=0\/df=1) (hd3:ds= -1\/ds=0\/ds=1) (ha:aG w a l) (he:iG w E):
 Calls Tryz.prog 235 #[.slice a l.length cap,.string key,.int .i64 n,shv dm df ds] w (jM w (dJ l key dm df ds n)):=by
 have hb0:=dS w (.cells #[.int .i64 dm,.int .i64 df,.int .i64 ds] 258);have YC:=Hq (Xk a cap l key dm df ds n E _ hl hks hkey hd1 hd2 hd3 (GR.At.below ha hb0) (he.below hb0));have HE:=Hq he;have M4:=Hq (λw1 (hb:aI w w1)=>O7 a cap l w1 hl hks (GR.At.below ha hb));have l7:=Hq (addP_no (l:=l) (key:=key) (dm:=dm) (df:=df) (ds:=ds) (n:=n));clear ha he hks hb0 hd1 hd2 hd3;generalize dJ l key dm df ds n=r at *;obtain⟨L,bo⟩:=r;dsimp only at YC l7;unfold jM;go_in
 go_wp2_with fail;refine YC.mono ?_;rintro e w1 ⟨hb1,hcase⟩;have HB1:=Hq (Fo.one_block hb1).2.2;have HS:=Hq hb1.size;clear hb1 YC;rcases hcase with⟨hno,i,hi,rfl⟩|⟨hyes,g,hg,rfl,hblk⟩
 .have hL:=ah l7 hno;subst hno hL;have HIR:=Hq (Lu (HE.below HB1) i hi);have HCX:=Hq (M4 _ HB1);clear M4 l7;go_wp2_with fail;refine HIR.mono ?_;rintro e w2 ⟨rfl,rfl⟩;go_wp2_with fail;refine HCX.mono ?_;rintro e w3 ⟨a3,c3,g3,hg3,rfl,hblk3,hb3⟩;have HK3:=Hq hblk3;have HB3:=Hq (HB1.trans (hb3.mono HB1.size));clear hblk3 hb3;go_wp2_with fail;go_ret2
  exact⟨_,_,g3,Nat.le_trans HB1.size hg3,rfl,HK3,HB3⟩
 .subst hyes;have HIR:=Hq (Ho (HE.below HB1));have HK:=Hq hblk;have hge:w.heap.size<=g:=by have:=ah HS;simp at hg;omega
  clear M4 l7 hblk;go_wp2_with fail;refine HIR.mono ?_;rintro e w2 ⟨rfl,rfl⟩;go_wp2_with fail;go_ret2
  exact⟨_,_,g,hge,rfl,wK.of_blk HK,HB1⟩
theorem abJ (hl:l.length<=1048576) (hks:∀p∈l,p.k.size<=1048576) (hkey:key.size<=1048576) (ha:aG w a l) (he:iG w E):
 Calls Tryz.prog 210 #[.slice a l.length cap,.string key,.int .i64 n] w (jM w (dJ l key (1) (1) (0) n)):=by
 have H:=Hq (zy a cap l key (1) (1) (0) n E w hl hks hkey Aaa Aaa Aaa ha he);clear ha he hks;generalize dJ l key (1) (1) (0) n=r at *;unfold jM at *;go_in
 exact aaJ
theorem abF (hl:l.length<=1048576) (hks:∀p∈l,p.k.size<=1048576) (hkey:key.size<=1048576) (ha:aG w a l) (he:iG w E):
 Calls Tryz.prog 267 #[.slice a l.length cap,.string key,.int .i64 n] w (jM w (dJ l key (0) (1) (0) n)):=by
 have H:=Hq (zy a cap l key (0) (1) (0) n E w hl hks hkey Aaa Aaa Aaa ha he);clear ha he hks;generalize dJ l key (0) (1) (0) n=r at *;unfold jM at *;go_in
 exact aaJ
theorem abK (hl:l.length<=1048576) (hks:∀p∈l,p.k.size<=1048576) (hkey:key.size<=1048576) (ha:aG w a l) (he:iG w E):
 Calls Tryz.prog 241 #[.slice a l.length cap,.string key,.int .i64 n] w (jM w (dJ l key (0) (-1) (0) n)):=by
 have H:=Hq (zy a cap l key (0) (-1) (0) n E w hl hks hkey Aaa Aaa Aaa ha he);clear ha he hks;generalize dJ l key (0) (-1) (0) n=r at *;unfold jM at *;go_in
 exact aaJ
theorem Xo (hl:l.length<=1048576) (hks:∀p∈l,p.k.size<=1048576) (hkey:key.size<=1048576) (ha:aG w a l) (he:iG w E):
 Calls Tryz.prog 212 #[.slice a l.length cap,.string key,.int .i64 n] w (jM w (dJ l key (0) (-1) (1) n)):=by
 have H:=Hq (zy a cap l key (0) (-1) (1) n E w hl hks hkey Aaa Aaa Aaa ha he);clear ha he hks;generalize dJ l key (0) (-1) (1) n=r at *;unfold jM at *;go_in
 exact aaJ
theorem Pk (hl:l.length<=1048576) (hks:∀p∈l,p.k.size<=1048576) (hkey:key.size<=1048576) (ha:aG w a l) (he:iG w E):
 Calls Tryz.prog 214 #[.slice a l.length cap,.string key,.int .i64 n] w (jM w (dJ l key (0) (1) (-1) n)):=by
 have H:=Hq (zy a cap l key (0) (1) (-1) n E w hl hks hkey Aaa Aaa Aaa ha he);clear ha he hks;generalize dJ l key (0) (1) (-1) n=r at *;unfold jM at *;go_in
 exact aaJ
end Go.Proofs.YtohmklmkjmlpjaaGreatDoor
