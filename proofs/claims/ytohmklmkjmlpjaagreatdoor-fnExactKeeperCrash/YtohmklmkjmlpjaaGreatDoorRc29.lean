/- Parts. -/
import Derived.Test.YtohmklmkjmlpjaaGreatDoorRc27
namespace Go.Proofs.YtohmklmkjmlpjaaGreatDoor
open Go.Proofs.Tryz
set_option maxHeartbeats 8000000
set_option maxRecDepth 100000
open Go.RowKit Go.Maps Go.Sort
open Mth
variable {P:Program} {α:Type} {enc:α->List Value} {sz ob cs:Nat} {W4 wr:World} {l:List Sn} {T2:List R3} {I:Nat->Nat} {a:Option Addr}
theorem al7 (m:Nat):AnyZI.SortsIn prog Tryz.sortedL_ren Fence.wide m:=
 ⟨λblk off cap ss W hH hblk hsz=>callsIn_wide.2 (AnyM.slices_Sort_int Tryz.sortL blk off cap ss W hH hblk hsz),
  λp cap W=>callsIn_wide.2 (AnyM.slices_Sort_int_none Tryz.sortL p cap W)⟩
theorem afG (mb:Option Nat) (W:World):Calls prog 269 #[.map mb] W λe w'=>e= .returned (.func (.func 291) #[] #[.pointer (some ⟨W.heap.size,0,none⟩)])/\w'=W.alloc (.cells #[.map mb] 291):=
 callsIn_wide.1 (AnyZI.keys_in Tryz.keysL Fence.wide 5 trivial rfl mb W)
theorem adV {l ss:List Int} (hp:l.Pairwise (· < ·)) (h:ss.Perm l):ss.mergeSort (λx y=>decide (x<=y))=l:=by
 have h1:ss.mergeSort leI=l.mergeSort leI:=mergeSort_of_perm_i h;refine h1.trans (List.mergeSort_of_pairwise ?_);exact hp.imp (λ{a b} h=>by simp only[leI,aGy];omega)
theorem Zx (B mb n:Nat) (l:List Int) (W:World) (hl:l.length<=1000) (hp:l.Pairwise (· < ·)) (hB:W.heap[B]?=some (.cells #[.map (some mb)] 291 (0,0))) (hs:fJ W mb n l):
 Calls prog 268 #[.func (.func 291) #[] #[.pointer (some ⟨B,0,none⟩)]] W λe w'=>∃v,e= .returned v/\w'.ownsRow W.heap.size 3 1 v l.length (GR.flat aS l)/\aI W w':=by
 obtain⟨D,hown,ha⟩:=hs;have hk:=fJ.keys hown ha (hp.imp (λh=>Aaa));have hsz:Maps.size D=l.length:=by rw [KW hown,hk.length_eq]
 have hcell:W.cell? ⟨B,0,none⟩=some (.map (some mb)):=aGu W B 0 _ _ (0,0) hB
 have hseq:SeqGives Fence.wide 2 prog 291 #[.pointer (some ⟨B,0,none⟩)] encZ (λss=>ss.Perm (intKeys D)) (Maps.size D) W:=
  AnyZI.keys_gives (ρ:=Tryz.keysL_ren) {Tryz.keysL with} Fence.wide _ trivial rfl Aaa B mb n D _ (aA hB) hcell hown
 have cS:=AnyZI.sorted_in Tryz.sortedL Fence.wide 5 trivial trivial trivial trivial rfl Aaa (al7 _) (enters_of func233 Aab rfl) 291 #[.pointer (some ⟨B,0,none⟩)] trivial (enters_of func291 Aab rfl) _ _ (by rw [hsz];unfold maxLen;omega) (by rw [hsz];omega) _ hseq;change CallsIn _ _ prog 268 _ _ _ at cS
 refine(callsIn_wide.1 cS).mono ?_;rintro e w' ⟨v,ss,rfl,hS,hrow,_,hb⟩;have hperm:ss.Perm l:=hS.trans hk.symm;rw [adV hp hperm,hperm.length_eq,<-Fu] at hrow;exact⟨v,rfl,hrow,hb⟩
theorem Zp (sb mb n:Nat) (f low:Int) (l:List Int) (w:World) (hl:l.length<=1000) (hp:l.Pairwise (· < ·)) (hb:lI w sb mb low) (hs:fJ w mb n l):
 Calls prog 249 #[.pointer (some ⟨sb,0,none⟩),.int .i64 f] w λe w'=>∃v,e= .returned (.agg #[.int .i64 f,.int .i64 low,v])/\w'.ownsRow w.heap.size 3 1 v l.length (GR.flat aS l)/\aI w w':=by
 have hsl:=aA hb;have HB:=Hq hb;have HS:=Hq hs;have SI:=Hq afG;have HSO:=Hq (λB W (h1:W.heap[B]?=_) (h2:fJ W mb n l)=>Zx B mb n l W hl hp h1 h2);have hb1:=au hb (ay w (.cells #[.int .i64 0,.int .i64 0,.slice none 0 0] 110));obtain⟨⟨m0,m1⟩,_⟩:=mV hb1;clear hb hs hb1;go_in
 go_upto_region 1 with fail;have y0:=aGj m0;have y1:=aGj m1;clear m0 m1;refine dx 12 Aab ?_;show fA _ _ _ _ _ 13 (Array.replicate 13 false) _ _
 refine tk [0,1,2,3,4,5,6,7,8] ?_;iterate 9 (refine vX (λK hK=>?_);go_simp;refine hK _ ?_;clear hK K)
 refine kD ?_;clear y0 y1;refine dP 9 rfl Aab Aad (λx hx=>?_);go_simp;have HX:=Hq hx;clear hx;refine(SI (some mb) x).mono ?_;rintro e y ⟨rfl,rfl⟩;refine⟨ay x _,?_⟩;refine dP 10 rfl Aab Aad (λx2 hx2=>?_);go_simp;have DV:=Hq hx2;have h1:x2.heap[x.heap.size]?=some (.cells #[.map (some mb)] 291 (0,0)):=au (aGg x _) hx2;have HG:=Hq (Ge.trans (Ge.trans HX (ay x _)) hx2);have h2:fJ x2 mb n l:=HS.kept ((HG.block mb (by have:=HS.lt;simp;omega)).trans (aGv _ _ _ HS.lt));have HCS:=Hq (HSO x.heap.size x2 h1 h2);clear hx2 h1 h2 SI HSO DV;refine HCS.mono ?_;rintro e z ⟨v,rfl,hrow,hbz⟩;refine⟨hbz,?_⟩;obtain⟨av,cv,rfl,_⟩:=GR.own_at (enc:=aS) (sz:=1) aO hrow;have HRW:=Hq hrow;have HZ:=Hq (Ge.trans HG hbz);clear hrow hbz HCS;refine tk [11] ?_;(refine vX (λK hK=>?_);go_simp;refine hK _ ?_;clear hK K)
 refine kD ?_;refine bE Aab (λx3 hx3=>?_);have OA:=Hq (Ge.trans HZ hx3);have HR3:=Hq (GR.own_below HRW hx3);have e3:x3.heap[w.heap.size]?=some (.cells #[.int .i64 0,.int .i64 0,.slice none 0 0] 110 (0,0)):=au (aGg w _) OA;have f0:=aj e3 0;have f1:=aj e3 1;have f2:=aj e3 2;have hw3:=aA e3;obtain⟨d0,d1,d2⟩:=three e3;have E3:=Hq e3;clear e3 hx3 HX HZ HRW;refine aG 12 rfl Aab Aad ?_;go_simp;refine wpAny_done Aab ?_;clear d0 d1 d2 f0 f1 f2;go_wp2_with fail;refine aP (λW' hW'=>?_)
 have e4:W'.heap[w.heap.size]?=some (.cells #[.int .i64 f,.int .i64 low,.slice av l.length cv] 110 (0,0)):=by
  rw [hW'];exact GR.setW_blk [.int .i64 f,.int .i64 low,.slice av l.length cv] (o:=0) (xs:=[.int .i64 0,.int .i64 0,.slice none 0 0]) E3
 have hsw:w.heap.size < x2.heap.size:=by have:=HG.size;simp at this;omega
 have hg:x3.grownBy W' (some w.heap.size):=by
  rw [hW'];exact⟨rfl,rfl,rfl,Aaq,λk _ hk=>GR.setW_other (g':=k) (λe=>hk Aap) [.int .i64 f,.int .i64 low,.slice av l.length cv] (o:=0)⟩
 have hne:∀k,(Value.slice av l.length cv).ownBlock=some k->k≠w.heap.size:=λk hk=>by have:=(HR3.lt k hk).1;omega
 have hrow:W'.ownsRow x2.heap.size 3 1 (.slice av l.length cv) l.length (GR.flat aS l):=by
  refine HR3.kept (row:=some w.heap.size) hg ?_;cases hv:(Value.slice av l.length cv).ownBlock with
  |none=>exact .inl rfl
  |some k=>exact .inr (λe=>hne k hv (by injection e))
 have hbel:aI w W':=by
  rw [hW'];exact GR.setW_below (aGh _) [.int .i64 f,.int .i64 low,.slice av l.length cv] (o:=0) ((ay w _).trans (OA.mono Aac))
 have HRW:=Hq (ownsRow_base_a hrow (show w.heap.size<=x2.heap.size by omega));have jl:=Hq hbel;obtain⟨d0,d1,d2⟩:=three e4;clear hW' e4 hg hrow hbel;exact aGn (v:= .agg #[.int .i64 f,.int .i64 low,.slice av l.length cv]) (by simp[results,results249,go_sem,d0,d1,d2]) rfl ⟨_,rfl,HRW,jl⟩
open Go.RowKit
theorem oZ (w:World) (base:Nat) (t ty e:TypeId) (i:TypeInfo) (size:Nat) (ht:P.underlying t=some (.slice e)) (hi:P.info? e=some i) (v:Value) (n:Nat) (xs:List Value) (hown:w.ownsRow base e size v n xs) (a:Option Addr) (c:Nat):
 (Builtin.append_ #[t,t] ty #[v,.slice a 0 c]).run P w= .ok v w:=by
 rcases hown.2 with⟨rfl,rfl⟩|⟨g,cap,cur,rfl,_,_,hnc,_⟩
 .cases a<;>simp[Builtin.append_,run_underlying ht,sizeOf,typeInfo,hi,Builtin.lenOf,Builtin.firstCells,loadCells,loadCellsFrom]
 .cases a<;>simp[Builtin.append_,run_underlying ht,sizeOf,typeInfo,hi,Builtin.lenOf,Builtin.firstCells,loadCells,loadCellsFrom,hnc,storeCells]
theorem fV (hs:∀x,(enc x).length=sz) (hz:0 < sz) (w:World) (base:Nat) (t ty e:TypeId) (i:TypeInfo) (z:Value) (bytes:Nat) (ht:P.underlying t=some (.slice e)) (hi:P.info? e=some i) (hz0:i.zero=some z) (hsize:i.size=sz) (hby:i.bytes=bytes) (hzs:z.cells.size=sz) (v:Value) (n:Nat) (xs:List Value) (hown:w.ownsRow base e sz v n xs) (a:Option Addr) (l:List α) (c:Nat) (ha:GR.At enc sz w a l) (h1:∀u∈GR.flat enc l,u.oneCell'=true) (h63:n+l.length<=maxLen) (hbytes:(n+l.length)*bytes<=140737488355328) (hbase:base<=w.heap.size):
 ∃v' w',(Builtin.append_ #[t,t] ty #[v,.slice a l.length c]).run P w= .ok v' w'/\w'.ownsRow base e sz v' (n+l.length) (xs++GR.flat enc l)/\w.grownBy w' v.ownBlock/\∀x,v'.ownBlock=some x->v.ownBlock=some x\/w.heap.size<=x:=by
 by_cases hl:l.length=0
 .have hn:l=[]:=aGM hl;subst hn;exact⟨v,w,oZ w base t ty e i sz ht hi v n xs hown a c,by simpa [GR.flat] using hown,World.grownBy.refl _ _,λx hx=> .inl hx⟩
 .obtain⟨g,off,rfl,_⟩:=ha 0 Aaa;exact iU w base t ty e i z sz bytes ht hi hz0 hsize hby hzs hz v n xs hown ⟨g,off,none⟩ l.length c (GR.flat enc l) (GR.flat_length enc sz hs l) (Kt hs hz ha) h1 h63 hbytes hbase
theorem run_copy_row (hs:∀x,(enc x).length=sz) (hz:0 < sz) (w:World) (t e:TypeId) (i:TypeInfo) (z:Value) (bytes:Nat) (ht:P.underlying t=some (.slice e)) (hi:P.info? e=some i) (hz0:i.zero=some z) (hsize:i.size=sz) (hby:i.bytes=bytes) (hzs:z.cells.size=sz) (a:Option Addr) (l:List α) (c:Nat) (ha:GR.At enc sz w a l) (h1:∀u∈GR.flat enc l,u.oneCell'=true) (h63:l.length<=maxLen) (hbytes:l.length*bytes<=140737488355328):
 ∃a' c' w',(∀ty,(Builtin.append_ #[t,t] ty #[.slice (some ⟨w.heap.size,0,none⟩) 0 0,.slice a l.length c]).run P (w.alloc (.cells #[] e))= .ok (.slice a' l.length c') w')/\w'.ownsRow w.heap.size e sz (.slice a' l.length c') l.length (GR.flat enc l)/\aI w w'/\(∃g,a'=some ⟨g,0,none⟩)/\l.length<=c':=by
 open awp in exact ahD
theorem Jb (hs:∀x,(enc x).length=sz) (hz:0 < sz) (w:World) (t e:TypeId) (i:TypeInfo) (z:Value) (bytes:Nat) (ht:P.underlying t=some (.slice e)) (hi:P.info? e=some i) (hz0:i.zero=some z) (hsize:i.size=sz) (hby:i.bytes=bytes) (hzs:z.cells.size=sz) (a:Option Addr) (l:List α) (c:Nat) (ha:GR.At enc sz w a l) (h1:∀u∈GR.flat enc l,u.oneCell'=true) (h63:l.length<=maxLen) (hbytes:l.length*bytes<=140737488355328):
 ∃a' c' w',(∀ty,(Builtin.append_ #[t,t] ty #[.slice (some ⟨w.heap.size,0,none⟩) 0 0,.slice a l.length c]).run P (w.alloc (.cells #[] e))= .ok (.slice a' l.length c') w')/\w'.ownsRow w.heap.size e sz (.slice a' l.length c') l.length (GR.flat enc l)/\aI w w'/\(l=[]->c'=0):=by
 by_cases hl0:l.length=0
 .have hn:l=[]:=aGM hl0;subst hn;open awo in exact ahD
 .obtain⟨a',c',w',q1,q2,q3,_⟩:=run_copy_row hs hz w t e i z bytes ht hi hz0 hsize hby hzs a l c ha h1 h63 hbytes;exact⟨a',c',w',q1,q2,q3,λe=>absurd (by rw [e];rfl) hl0⟩
theorem gH {w:World} {ops:Array Oper} {rest:List Oper} {o:Oper} {a:Act} {Q:Exit->Act->World->Prop} (hgd:o.guard=none) (s x:Operand) (t:TypeId)
 (ho:o.op= .call {callee:= .builtin .append,args:=#[s,x],argTypes:=#[t,t]}) (vs vx:Value) (hs:a.eval s=vs) (hx:a.eval x=vx) (v':Value) (w':World) (hrun:(Builtin.append_ #[t,t] o.type #[vs,vx]).run P w= .ok v' w')
 (h:wpList P ops Q rest (a.put o.dst v') w'):wpList P ops Q (o::rest) a w:=by
 refine wpList_plain hgd λK hK=>?_
 unfold Oper.wp;simp[execOp,ho,resolve,invoke,builtin,hs,hx,hrun,Result.andThen];exact hK _ _ h
theorem ac5 (a:Option Addr) (cap:Nat) (l:List Pu) (w:World) (hl:l.length<=1048600) (ha:aH w a l):
 Calls prog 80 #[.slice a l.length cap] w λe w'=>∃a' c',e= .returned (.slice a' l.length c')/\w'.ownsRow w.heap.size 108 4 (.slice a' l.length c') l.length (GR.flat fD l)/\aI w w'/\(∃g,a'=some ⟨g,0,none⟩)/\l.length<=c':=by
 obtain⟨i0,hi,hz0,hz1,hz2⟩:=aGV FU;obtain⟨a',c',y,hrun,hrow,hby,hsm⟩:=run_copy_row (P:=prog) (enc:=fD) aU Aaa w 35 108 i0 (.agg (jh ByteArray.empty 0 0 0)) 40 underlying35 hi hz0 hz1 hz2 rfl a l cap ha (Fp l) Aai Aaa;have HR:=Hq hrow;have HB:=Hq hby;have HSM:=Hq hsm;clear ha hi hz0 hz1 hz2 hrow hby hsm;go_in
 go_wp2_with (at_builtin;refine gH rfl _ _ 35 rfl _ _ rfl rfl _ _ (hrun _) ?_)
 go_ret;exact⟨a',c',rfl,HR,HB,HSM⟩
def Dr (s0 s1 s2 s3 s4 gs x:Nat):Nat:=if x < s0 then 0 else if x < s1 then 1 else if x < s2 then 2 else if x < s3 then 3 else if x < s4 then 6 else if x=gs then 4 else 5
structure SM (W4 wr:World) (ob k:Nat) (l:List Sn) (T2:List R3) (I:Nat->Nat) (a:Option Addr) (cs:Nat):Prop where
 len:T2.length=k
 own:wr.ownsRow W4.heap.size 110 3 (.slice a k cs) k (GR.flat fq T2)
 dn:∀i (hi:i < l.length),i < k->∃b c,T2[i]?=some ⟨l[i].f,l[i].l,.slice b l[i].ids.length c⟩/\WO wr b c (I i) l[i].ids/\∀x∈fp (I i) l[i].ids,W4.heap.size<=x/\x < wr.heap.size/\(Value.slice a k cs).ownBlock≠some x
 nd:∀i j (hi:i < l.length) (hj:j < l.length),i < j->j < k->0 < l[i].ids.length->0 < l[j].ids.length->I i≠I j
 kp:aC [ob] W4 wr
theorem SM.next {x y:World} {k:Nat} {a2:Option Addr} {c2 gi cc:Nat} {b:Option Addr} (h:SM W4 wr ob k l T2 I a cs) (hk:k < l.length) (hob:ob < W4.heap.size) (hx:aI wr x) (hi:WO x b cc gi l[k].ids) (hlt:∀z∈fp gi l[k].ids,wr.heap.size<=z/\z < x.heap.size) (ho:y.ownsRow W4.heap.size 110 3 (.slice a2 (k+1) c2) (k+1) (GR.flat fq T2++fq ⟨l[k].f,l[k].l,.slice b l[k].ids.length cc⟩)) (hg:x.grownBy y (Value.slice a k cs).ownBlock) (hw:∀z,(Value.slice a2 (k+1) c2).ownBlock=some z->(Value.slice a k cs).ownBlock=some z\/x.heap.size<=z):
 SM W4 (y.setCell ⟨ob,6,none⟩ (.slice a2 (k+1) c2)) ob (k+1) l (T2++[⟨l[k].f,l[k].l,.slice b l[k].ids.length cc⟩]) (λi=>if i=k then gi else I i) a2 c2:=by
 have hs:y.heap.size=(y.setCell ⟨ob,6,none⟩ (.slice a2 (k+1) c2)).heap.size:=Aaq
 have hkp:aC [ob] y (y.setCell ⟨ob,6,none⟩ (.slice a2 (k+1) c2)):=aC.set _;have hx1:=hx.size;have hx2:=hg.size;have hx3:=h.kp.size;have hoo:=h.own.lt;have hxy:aC (Value.slice a k cs).ownBlock.toList x y:=⟨hg.os,hg.tape,hg.output,hg.size,λz hz hne=>hg.block z hz (λe=>hne (by rw [<-e];simp))⟩;refine⟨by simp[h.len],?_,λi hi' hik=>?_,λi j hi' hj hij hjk h1 h2=>?_,?_⟩
 .rw [GR.flat_append,GR.flat_one];exact dU ho hkp (λz hz=>by have:z=ob:=Ack;omega)
 .by_cases e:i=k
  .subst e;refine⟨b,cc,by rw [List.getElem?_append_right (by rw [h.len];exact aGh _),h.len];simp,?_,?_⟩
   .rw [aGC rfl];refine(hi.keeps hxy (λz hz hm=>?_)).keeps hkp (λz hz hm=>?_)
    .have h1:(Value.slice a i cs).ownBlock=some z:=Abb
     have:=(hoo z h1).2;have:=(hlt z hz).1;omega
    .have:=(hlt z hz).1;have:z=ob:=Abb;omega
   .rw [aGC rfl];refine λz hz=>⟨by have:=(hlt z hz).1;omega,by rw [<-hs];have:=(hlt z hz).2;omega,λe2=>?_⟩
    rcases hw z e2 with h1|h1
    .have:=(hoo z h1).2;have:=(hlt z hz).1;omega
    .have:=(hlt z hz).2;omega
  .obtain⟨b',c',e1,e2,e3⟩:=h.dn i hi' Aaa;refine⟨b',c',by rw [aHJ (by rw [h.len];omega)];exact e1,?_,?_⟩
   .rw [aGr e];refine((e2.below hx).keeps hxy (λz hz hm=>?_)).keeps hkp (λz hz hm=>?_)
    .exact(e3 z hz).2.2 Abb
    .have:=(e3 z hz).1;have:z=ob:=Abb;omega
   .rw [aGr e];refine λz hz=>⟨(e3 z hz).1,by rw [<-hs];have:=(e3 z hz).2.1;omega,λe4=>?_⟩
    rcases hw z e4 with h1|h1
    .exact(e3 z hz).2.2 h1
    .have:=(e3 z hz).2.1;omega
 .by_cases ej:j=k
  .subst ej;rw [aGr Aaa,aGC rfl];obtain⟨_,_,_,_,e3⟩:=h.dn i hi' Aaa;have q1:=(e3 (I i) (dX h1)).2.1;have q2:=(hlt gi (dX h2)).1;omega
  .exact ajP
 .refine⟨hg.os.trans (hx.os.trans h.kp.os),hg.tape.trans (hx.tape.trans h.kp.tape),hg.output.trans (hx.output.trans h.kp.output),by rw [<-hs];omega,λz hz hm=>?_⟩;have hne:z≠ob:=Abb
  rw [aGx _ _ _ _ hne,hg.block z Aaa (λe=>by have:=(hoo z e.symm).1;omega),hx.block z Aaa];exact h.kp.block z hz hm
theorem SM.done (h:SM W4 wr ob l.length l T2 I a cs):∃g,pQ wr a g I l/\(∀x∈fp g l,W4.heap.size<=x)/\(∀x∈nA I l,W4.heap.size<=x/\x < wr.heap.size/\x∉fp g l)/\(nA I l).Nodup:=by
 open avi in exact ahq
theorem qb (n:Nd) (A:bV) (w:World) (hz:eG n 1048576) (ha:dD w A n):
 Calls prog 30 #[gP n A] w λe w'=>∃A' G' c',e= .returned (gP n A')/\NQ w' w.heap.size n A' G' c'/\aI w w'/\(∃g,A'.p=some ⟨g,0,none⟩)/\n.pu.length<=A'.cp/\(∃g,A'.r=some ⟨g,0,none⟩)/\n.reqs.length<=A'.cr:=by
 have HZ:=Hq hz;have HA:=Hq ha;have hlk:=hz.k;have hlp:=hz.p;have hlo:=hz.o;have hls:=hz.s;have hlr:=hz.r;clear hz ha;go_in
 go_upto_region 2 with fail;refine wp_at (λW0 hW=>?_);obtain⟨e1,e2,e3,e4⟩:=gF w (.cells (dG n A) 40) (.cells iP 40) (.cells (dG n A) 40);rw [<-hW] at e1 e2 e3 e4;have xX:=Hq e1;have OM:=Hq e2;have JK:=Hq e3;have ED:=Hq e4;have hsz0:=aA e3;clear hW e1 e2 e3 e4;obtain⟨c0,c1,c2,c3,c4,c5,c6,c7,c8⟩:=nine xX;have alE:=aA xX;have aEh:=aA JK;obtain⟨i0,hi,hz0,hz1,hz2⟩:=aGV xB;obtain⟨ak,ck,aEX,hrun,hrow,hby,_⟩:=run_copy_row (P:=prog) (enc:=aS) aO Aaa W0 22 3 i0 (.int .i64 0) 8 underlying22 hi hz0 hz1 hz2 rfl A.k n.kids A.ck (GR.At.below HA.k ED) (by intro u hu;rw [Fu] at hu;obtain⟨z,_,rfl⟩:=aHQ.1 hu;rfl) Aai Aaa;clear hi hz0 hz1 hz2;have zH:=Hq hby;obtain⟨d0,d1,d2,d3,d4,d5,d6,d7,d8⟩:=nine (au JK hby);have f1:=aj (au JK hby) 2;have Uk:=aA (au JK hby);clear hby;go_upto_region 3 with(at_builtin;refine gH rfl _ _ 22 rfl _ _ rfl rfl _ _ (hrun _) ?_)
 refine wp_at (λW1 hW=>?_);have hO1:=au JK zH;have xY:Hid (W1.heap[w.heap.size]?=some (.cells (dG n A) 40 (0,0))):=by rw [hW];exact(aGx _ _ _ _ (show w.heap.size≠w.heap.size+2 by omega)).trans (au xX zH)
 have OO:Hid (W1.heap[w.heap.size+1]?=some (.cells iP 40 (0,0))):=by rw [hW];exact(aGx _ _ _ _ (show w.heap.size+1≠w.heap.size+2 by omega)).trans (au OM zH)
 have JL:Hid (W1.heap[w.heap.size+2]?=some (.cells (iT n.id n.par ak n.kids.length ck n.next A.p n.pu.length A.cp A.o n.out.length A.co A.s n.seen.length A.cs n.old A.r n.reqs.length A.cr) 40 (0,0))):=Acx
 have EF:Hid (aI w W1):=by rw [hW];exact belowN Aaa (ED.trans (zH.mono ED.size))
 have OD:Hid (aC [w.heap.size+2] W0 W1):=by rw [hW];exact keepsN zH
 have VY:Hid (aC [w.heap.size+2] aEX W1):=Abf
 clear hW hO1 xX OM JK;clear c0 c1 c2 c3 c4 c5 c6 c7 c8 d0 d1 d2 d3 d4 d5 d6 d7 d8 f1 Uk hrun;have HKW:Hid (W1.ownsRow W0.heap.size 3 1 (.slice ak n.kids.length ck) n.kids.length (GR.flat aS n.kids)):=dU hrow VY (λx hx=>by have:x=w.heap.size+2:=Aah;omega);clear hrow;obtain⟨c0,c1,c2,c3,c4,c5,c6,c7,c8⟩:=nine xY;have alF:=aA xY;have aEi:=aA JL;go_wp2_with fail;refine(ac5 A.p A.cp n.pu W1 Aaa (GR.At.below HA.p EF)).mono ?_;rintro e aEY ⟨ap,cp,rfl,hrow,hby,hsm⟩;have HPS:=Hq hsm;clear hsm;have zI:=Hq hby;obtain⟨d0,d1,d2,d3,d4,d5,d6,d7,d8⟩:=nine (au JL hby);have f1:=aj (au JL hby) 4;have Uk:=aA (au JL hby);clear hby c0 c1 c2 c3 c4 c5 c6 c7 c8;go_upto_region 4 with fail;refine wp_at (λW2 hW=>?_);have hO1:=au JL zI;have xZ:Hid (W2.heap[w.heap.size]?=some (.cells (dG n A) 40 (0,0))):=by rw [hW];exact(aGx _ _ _ _ (show w.heap.size≠w.heap.size+2 by omega)).trans (au xY zI)
 have OP:Hid (W2.heap[w.heap.size+1]?=some (.cells iP 40 (0,0))):=by rw [hW];exact(aGx _ _ _ _ (show w.heap.size+1≠w.heap.size+2 by omega)).trans (au OO zI)
 have JM:Hid (W2.heap[w.heap.size+2]?=some (.cells (iT n.id n.par ak n.kids.length ck n.next ap n.pu.length cp A.o n.out.length A.co A.s n.seen.length A.cs n.old A.r n.reqs.length A.cr) 40 (0,0))):=Acx
 have EG:Hid (aI w W2):=by rw [hW];exact belowN Aaa (EF.trans (zI.mono EF.size))
 have JF:Hid (aC [w.heap.size+2] W1 W2):=by rw [hW];exact keepsN zI
 have VZ:Hid (aC [w.heap.size+2] aEY W2):=Abf
 clear hW hO1 xY OO JL;clear d0 d1 d2 d3 d4 d5 d6 d7 d8 f1 Uk;have H6:Hid (W2.ownsRow W1.heap.size 108 4 (.slice ap n.pu.length cp) n.pu.length (GR.flat fD n.pu)):=dU hrow VZ (λx hx=>by have:x=w.heap.size+2:=Aah;omega);clear hrow;obtain⟨c0,c1,c2,c3,c4,c5,c6,c7,c8⟩:=nine xZ;have alG:=aA xZ;have aEj:=aA JM;obtain⟨i0,hi,hz0,hz1,hz2⟩:=aGV FW;obtain⟨ao,co,aEZ,hrun,hrow,hby,_⟩:=run_copy_row (P:=prog) (enc:=aM) aZ Aaa W2 36 91 i0 (.agg (gV 0 0 ByteArray.empty 0)) 40 underlying36 hi hz0 hz1 hz2 rfl A.o n.out A.co (GR.At.below HA.o EG) (CY _) Aai Aaa;clear hi hz0 hz1 hz2;have zJ:=Hq hby;obtain⟨d0,d1,d2,d3,d4,d5,d6,d7,d8⟩:=nine (au JM hby);have f1:=aj (au JM hby) 5;have Uk:=aA (au JM hby);clear hby;go_upto_region 5 with(at_builtin;refine gH rfl _ _ 36 rfl _ _ rfl rfl _ _ (hrun _) ?_)
 refine wp_at (λW3 hW=>?_);have hO1:=au JM zJ;have yc:Hid (W3.heap[w.heap.size]?=some (.cells (dG n A) 40 (0,0))):=by rw [hW];exact(aGx _ _ _ _ (show w.heap.size≠w.heap.size+2 by omega)).trans (au xZ zJ)
 have OQ:Hid (W3.heap[w.heap.size+1]?=some (.cells iP 40 (0,0))):=by rw [hW];exact(aGx _ _ _ _ (show w.heap.size+1≠w.heap.size+2 by omega)).trans (au OP zJ)
 have JN:Hid (W3.heap[w.heap.size+2]?=some (.cells (iT n.id n.par ak n.kids.length ck n.next ap n.pu.length cp ao n.out.length co A.s n.seen.length A.cs n.old A.r n.reqs.length A.cr) 40 (0,0))):=Acx
 have JD:Hid (aI w W3):=by rw [hW];exact belowN Aaa (EG.trans (zJ.mono EG.size))
 have JG:Hid (aC [w.heap.size+2] W2 W3):=by rw [hW];exact keepsN zJ
 have aay:Hid (aC [w.heap.size+2] aEZ W3):=Abf
 clear hW hO1 xZ OP JM;clear c0 c1 c2 c3 c4 c5 c6 c7 c8 d0 d1 d2 d3 d4 d5 d6 d7 d8 f1 Uk hrun;have HOW:Hid (W3.ownsRow W2.heap.size 91 4 (.slice ao n.out.length co) n.out.length (GR.flat aM n.out)):=dU hrow aay (λx hx=>by have:x=w.heap.size+2:=Aah;omega);clear hrow;obtain⟨c0,c1,c2,c3,c4,c5,c6,c7,c8⟩:=nine yc;have alH:=aA yc;have aEk:=aA JN;obtain⟨i0,hi,hz0,hz1,hz2⟩:=aGV Ai;obtain⟨ar,cr,aE0,hrun,hrow,hby,hsr⟩:=run_copy_row (P:=prog) (enc:=aJ) aN Aaa W3 38 95 i0 (.agg (fH 0 ByteArray.empty 0 0)) 40 underlying38 hi hz0 hz1 hz2 rfl A.r n.reqs A.cr (GR.At.below HA.r JD) (jq _) Aai Aaa;clear hi hz0 hz1 hz2;have HRS:=Hq hsr;clear hsr;have OW:=Hq hby;obtain⟨d0,d1,d2,d3,d4,d5,d6,d7,d8⟩:=nine (au JN hby);have f1:=aj (au JN hby) 8;have Uk:=aA (au JN hby);clear hby;go_upto_region 6 with(at_builtin;refine gH rfl _ _ 38 rfl _ _ rfl rfl _ _ (hrun _) ?_)
 refine wp_at (λW4 hW=>?_);have hO1:=au JN OW;have zF:Hid (W4.heap[w.heap.size]?=some (.cells (dG n A) 40 (0,0))):=by rw [hW];exact(aGx _ _ _ _ (show w.heap.size≠w.heap.size+2 by omega)).trans (au yc OW)
 have VU:Hid (W4.heap[w.heap.size+1]?=some (.cells iP 40 (0,0))):=by rw [hW];exact(aGx _ _ _ _ (show w.heap.size+1≠w.heap.size+2 by omega)).trans (au OQ OW)
 have VT:Hid (W4.heap[w.heap.size+2]?=some (.cells (iT n.id n.par ak n.kids.length ck n.next ap n.pu.length cp ao n.out.length co A.s n.seen.length A.cs n.old ar n.reqs.length cr) 40 (0,0))):=Acx
 have EH:Hid (aI w W4):=by rw [hW];exact belowN Aaa (JD.trans (OW.mono JD.size))
 have JH:Hid (aC [w.heap.size+2] W3 W4):=by rw [hW];exact keepsN OW
 have anm:Hid (aC [w.heap.size+2] aE0 W4):=Abf
 clear hW hO1 yc OQ JN;clear c0 c1 c2 c3 c4 c5 c6 c7 c8 d0 d1 d2 d3 d4 d5 d6 d7 d8 f1 Uk hrun;have HQW:Hid (W4.ownsRow W3.heap.size 95 4 (.slice ar n.reqs.length cr) n.reqs.length (GR.flat aJ n.reqs)):=dU hrow anm (λx hx=>by have:x=w.heap.size+2:=Aah;omega);clear hrow;obtain⟨c0,c1,c2,c3,c4,c5,c6,c7,c8⟩:=nine zF;have alI:=aA zF;have acu:=aA VT;obtain⟨d0,d1,d2,d3,d4,d5,d6,d7,d8⟩:=nine VT;have f6:=aj VT 6;go_upto_region 7 with fail;refine wp_at (λZ hZ=>?_);have afw:(W4.setCell ⟨w.heap.size+2,6,none⟩ (.slice (some ⟨W4.heap.size,0,none⟩) 0 0)).heap.size=W4.heap.size:=Aaq
 have hZo:Z.ownsRow W4.heap.size 110 3 (.slice (some ⟨W4.heap.size,0,none⟩) 0 0) 0 []:=by
  have hlit:=aGY (base:=W4.heap.size) (e:=110) (size:=3) (W4.setCell ⟨w.heap.size+2,6,none⟩ (.slice (some ⟨W4.heap.size,0,none⟩) 0 0)) #[] 0 (by rw [afw];exact aGh _) Aai Aac;rw [afw] at hlit;rw [hZ];exact hlit
 have hZk:aC [w.heap.size+2] W4 Z:=by rw [hZ];exact(aC.set _).trans (aC.of_below (ay _ _))
 have hZb:Z.heap[w.heap.size+2]?=some (.cells (iT n.id n.par ak n.kids.length ck n.next ap n.pu.length cp ao n.out.length co (some ⟨W4.heap.size,0,none⟩) 0 0 n.old ar n.reqs.length cr) 40 (0,0)):=by
  rw [hZ];exact(aGv _ _ _ (by rw [afw];exact acu)).trans (pU VT)
 have HZF:=Hq (And.intro hZo (And.intro hZk hZb));clear hZ afw hZo hZk hZb c0 c1 c2 c3 c4 c5 c6 c7 c8 d0 d1 d2 d3 d4 d5 d6 d7 d8 f6;go_wp2_with fail;go_loopw [4] (λi wr=>∃(k:Nat) (T2:List R3) (I:Nat->Nat) (a:Option Addr) (cs:Nat),k<=n.seen.length/\i= .int .i64 k/\SM W4 wr (w.heap.size+2) k n.seen T2 I a cs/\wr.heap[w.heap.size+2]?=some (.cells (iT n.id n.par ak n.kids.length ck n.next ap n.pu.length cp ao n.out.length co a k cs n.old ar n.reqs.length cr) 40 (0,0))) (λi _=>n.seen.length - (intOf i).toNat)
 case atStart=>
  exact⟨0,[],λ_=>0,some ⟨W4.heap.size,0,none⟩,0,aGB _,rfl,⟨rfl,HZF.1,λi hi h=>Aaa,λi j _ _ _ h=>Aaa,HZF.2.1⟩,HZF.2.2⟩
 case' round=>
  obtain⟨k,T2,I,a,cs,hk,rfl,hsm,aAF⟩:=hrel
  have HSM:=Hq hsm
  have HOB:=Hq aAF
  have Sm:=Hq (hsm.kp.obj zF Aac)
  have Tf:=Hq (hsm.kp.obj VU Aac)
  have HBr:=Hq (EH.trans (hsm.kp.below (λx hx=>by have:x=w.heap.size+2:=Aah;omega) EH.size))
  have aFe:=hsm.kp.size
  clear hsm aAF
  obtain⟨c0,c1,c2,c3,c4,c5,c6,c7,c8⟩:=nine Sm
  have hnr:=aA Sm
  by_cases hlt:k < n.seen.length
  case' pos=>
   have PW:(k:Int) < (n.seen.length:Int):=Aaa
   obtain⟨g,off,b,cc,e0,hg,q0,q1,q2,hIb⟩:=iW.below HA.s HBr k hlt
   have HSN:=Hq (λx y a2 c2 gi b cc hx hi hlt2 ho hg hw=>SM.next (x:=x) (y:=y) (a2:=a2) (c2:=c2) (gi:=gi) (b:=b) (cc:=cc) HSM hlt acu hx hi hlt2 ho hg hw)
   have hil:=HZ.sk _ (aGz hlt)
   have HIB:=Hq hIb
   rw [e0] at c6
   clear hIb e0
   generalize n.seen[k]=s0 at *
   obtain⟨sf,sl,ids⟩:=s0
   dsimp only at q0 q1 q2 HSN HIB hil
   go_upto_region 11 with fail
   refine wp_at (λX1 hX=>?_)
   have e1:X1.heap[wr.heap.size]?=some (.cells #[.int .i64 sf,.int .i64 sl,.slice b ids.length cc] 110 (0,0)):=by rw [hX];exact aGg _ _
   have e2:aI wr X1:=by rw [hX];exact ay _ _
   have E1:=Hq e1
   have E2:=Hq e2
   have afA:=aA e1
   obtain⟨s0,s1,s2⟩:=three e1
   clear hX e1 e2 q0 q1 q2 c0 c1 c2 c3 c4 c5 c6 c7 c8
   obtain⟨i0,hi,hz0,hz1,hz2⟩:=aGV xB
   obtain⟨b2,Pn,y2,hrun,hrow,hby,hq0⟩:=Jb (P:=prog) (enc:=aS) aO Aaa X1 22 3 i0 (.int .i64 0) 8 underlying22 hi hz0 hz1 hz2 rfl b ids cc (GR.At.below HIB E2) (by intro u hu;rw [Fu] at hu;obtain⟨z,_,rfl⟩:=aHQ.1 hu;rfl) Aai Aaa
   have hE3:=au E1 hby
   have f2:=aj hE3 2
   have hl3:=aA hE3
   obtain⟨t0,t1,t2⟩:=three hE3
   have HE3:=Hq hE3
   have JC:=Hq hby
   clear hi hz0 hz1 hz2 hby hE3
   go_upto_region 12 with(at_builtin;refine gH rfl _ _ 22 rfl _ _ rfl rfl _ _ (hrun _) ?_)
   refine wp_at (λX2 hX=>?_)
   have e3:X2.heap[wr.heap.size]?=some (.cells #[.int .i64 sf,.int .i64 sl,.slice b2 ids.length Pn] 110 (0,0)):=by rw [hX];exact aT HE3 2 (.slice b2 ids.length Pn)
   have e4:aI wr X2:=by
    rw [hX];exact(E2.trans (JC.mono E2.size)).setCell (p:=⟨wr.heap.size,2,none⟩) (aGh _) _
   have hv2:aC [wr.heap.size] y2 X2:=by rw [hX];exact aC.set _
   obtain⟨_,_,g2,e5,hW2,hg2,_⟩:=GR.W.of_own (enc:=aS) aO hrow
   cases e5
   have hW3:=(WO.of_own hW2 hrow hq0).keeps hv2 (λz hz=>by have:=(hg2 z hz).1;simp;omega)
   have hg3:∀z∈fp g2 ids,wr.heap.size<=z/\z < X2.heap.size:=λz hz=>⟨by have:=(hg2 z hz).1;omega,aGq (hg2 z hz).2 hv2.size⟩
   clear hX hq0 hrow hW2 hg2 hv2 s0 s1 s2 t0 t1 t2 f2 hl3 hrun
   have EO:=Hq (au HOB e4)
   obtain⟨c0,c1,c2,c3,c4,c5,c6,c7,c8⟩:=nine EO
   have hl4:=aA EO
   obtain⟨s0,s1,s2⟩:=three e3
   have hl5:=aA e3
   obtain⟨i0,hi,hz0,hz1,hz2⟩:=aGV FV
   have aAE:=HSM.len
   have hown3:=GR.own_below HSM.own (e4.trans ((ay X2 (.cells #[.int .i64 sf,.int .i64 sl,.slice b2 ids.length Pn] 110)).mono e4.size))
   have hblk:GR.Blk fq 110 (X2.alloc (.cells #[.int .i64 sf,.int .i64 sl,.slice b2 ids.length Pn] 110)) X2.heap.size [⟨sf,sl,.slice b2 ids.length Pn⟩]:=aGg X2 _
   obtain⟨v6,y6,aAK,hown6,rA,hw6⟩:=fV (P:=prog) (enc:=fq) bY Aaa (X2.alloc (.cells #[.int .i64 sf,.int .i64 sl,.slice b2 ids.length Pn] 110)) W4.heap.size 37 37 110 i0 (.agg #[.int .i64 0,.int .i64 0,.slice none 0 0]) 40 underlying37 hi hz0 hz1 hz2 rfl (.slice a k cs) k (GR.flat fq T2) hown3 (some ⟨X2.heap.size,0,none⟩) [⟨sf,sl,.slice b2 ids.length Pn⟩] 1 (hblk.at bY) (by intro u hu;rw [GR.flat_one] at hu;simp only[fq,aGF,aHx,or_false] at hu;rcases hu with rfl|rfl|rfl<;>rfl) (by unfold maxLen;simp;omega) Aag (by have:=e4.size;simp;omega)
   rw [GR.flat_one] at hown6
   have hform:∃a6 c6,v6= .slice a6 (k+1) c6:=by
    have h6:=hown6;rw [<-GR.flat_one (enc:=fq),<-GR.flat_append] at h6;have hl6:(T2++[(⟨sf,sl,.slice b2 ids.length Pn⟩:R3)]).length=k+1:=by simp[aAE]
    have h7:y6.ownsRow W4.heap.size 110 3 v6 (T2++[(⟨sf,sl,.slice b2 ids.length Pn⟩:R3)]).length (GR.flat fq (T2++[⟨sf,sl,.slice b2 ids.length Pn⟩])):=by rw [hl6];exact h6
    obtain⟨a6,c6',e6,_⟩:=GR.own_at (enc:=fq) (sz:=3) bY h7;rw [hl6] at e6;exact⟨a6,c6',e6⟩
   obtain⟨a6,cc6,rfl⟩:=hform
   have acs:y6.heap[w.heap.size+2]?=some (.cells (iT n.id n.par ak n.kids.length ck n.next ap n.pu.length cp ao n.out.length co a k cs n.old ar n.reqs.length cr) 40 (0,0)):=by
    rw [rA.block _ Aag (λe=>by have:=((ah HSM).own.lt _ e.symm).1;omega)];exact au EO (ay X2 _)
   have aBP:=Hq (HSN (X2.alloc (.cells #[.int .i64 sf,.int .i64 sl,.slice b2 ids.length Pn] 110)) y6 a6 cc6 g2 b2 Pn (e4.trans ((ay X2 _).mono e4.size)) (hW3.below (ay X2 _)) (λz hz=>⟨(hg3 z hz).1,by have:=(hg3 z hz).2;simp;omega⟩) hown6 rA hw6)
   have aBR:=Hq acs
   obtain⟨d0,d1,d2,d3,d4,d5,d6,d7,d8⟩:=nine acs
   have f6:=aj acs 6
   have hl6:=aA acs
   clear hi hz0 hz1 hz2 hown3 hblk hown6 rA hw6 acs HSN hW3 hg3 e3 e4
   go_wp2_with (at_builtin;refine gH rfl _ _ 37 rfl _ _ rfl rfl _ _ aAK ?_)
   go_roundw
   case rel=>
    exact⟨k+1,_,_,a6,cc6,Aaa,Aaf,aBP,pU aBR⟩
   case measure=>simp[intOf];omega
  have hke:k=n.seen.length:=Aaa
  subst hke
  have hnlt:decide ((n.seen.length:Int) < (n.seen.length:Int))=false:=Aac
  go_upto_region 13 with fail
  refine wp_at (λW5 hWW=>?_)
  subst hWW
  obtain⟨gs,hsn⟩:=HSM.done
  have HSN:=Hq hsn
  have JI:=Hq HSM.kp
  clear hsn HSM c0 c1 c2 c3 c4 c5 c6 c7 c8
 obtain⟨c0,c1,c2,c3,c4,c5,c6,c7,c8⟩:=nine HOB;obtain⟨d0,d1,d2,d3,d4,d5,d6,d7,d8⟩:=nine Tf;have f0:=aj Tf 0;have f1:=aj Tf 1;have f2:=aj Tf 2;have f3:=aj Tf 3;have f4:=aj Tf 4;have f5:=aj Tf 5;have f6:=aj Tf 6;have f7:=aj Tf 7;have f8:=aj Tf 8;have aEd:=aA HOB;have aEn:=aA Tf;go_wp2_with fail;refine aP (λW' hW'=>?_)
 have e4:W'.heap[w.heap.size+1]?=some (.cells (iT n.id n.par ak n.kids.length ck n.next ap n.pu.length cp ao n.out.length co a n.seen.length cs n.old ar n.reqs.length cr) 40 (0,0)):=by
  rw [hW'];exact GR.setW_blk (iT n.id n.par ak n.kids.length ck n.next ap n.pu.length cp ao n.out.length co a n.seen.length cs n.old ar n.reqs.length cr).toList (o:=0) (xs:=iP.toList) Tf
 have hso:∀x,x≠w.heap.size+1->W'.heap[x]?=W5.heap[x]?:=λx hx=>by
  rw [hW']
  exact GR.setW_other hx (iT n.id n.par ak n.kids.length ck n.next ap n.pu.length cp ao n.out.length co a n.seen.length cs n.old ar n.reqs.length cr).toList (o:=0)
 have hsz:W5.heap.size=W'.heap.size:=by rw [hW'];simp[World.setCell]
 have HBE:Hid (aI w W'):=by
  rw [hW'];exact GR.setW_below Aaa (iT n.id n.par ak n.kids.length ck n.next ap n.pu.length cp ao n.out.length co a n.seen.length cs n.old ar n.reqs.length cr).toList (o:=0) HBr
 clear hW' c0 c1 c2 c3 c4 c5 c6 c7 c8 d0 d1 d2 d3 d4 d5 d6 d7 d8 f0 f1 f2 f3 f4 f5 f6 f7 f8;obtain⟨c0,c1,c2,c3,c4,c5,c6,c7,c8⟩:=nine e4;have k0:=OD.size;have k1:=JF.size;have k2:=JG.size;have k3:=JH.size;have k4:=JI.size;have b4:∀x,w.heap.size+2 < x->x < W4.heap.size->W'.heap[x]?=W4.heap[x]?:=λx h1 h2=>(hso x Aaa).trans (JI.block x h2 Aag)
 have b3:∀x,w.heap.size+2 < x->x < W3.heap.size->W'.heap[x]?=W3.heap[x]?:=λx h1 h2=>(b4 x h1 Aaa).trans (JH.block x h2 Aag)
 have b2:∀x,w.heap.size+2 < x->x < W2.heap.size->W'.heap[x]?=W2.heap[x]?:=λx h1 h2=>(b3 x h1 Aaa).trans (JG.block x h2 Aag)
 have b1:∀x,w.heap.size+2 < x->x < W1.heap.size->W'.heap[x]?=W1.heap[x]?:=λx h1 h2=>(b2 x h1 Aaa).trans (JF.block x h2 Aag)
 have oK:=HKW.lt;have oP:=H6.lt;have oO:=HOW.lt;have oQ:=HQW.lt;obtain⟨sw,sg,si,snd⟩:=ah HSN;have hkW:=jK HKW (w':=W') (λx hx=>b1 x (by have:=oK x hx;omega) (oK x hx).2);have hpW:=jK H6 (w':=W') (λx hx=>b2 x (by have:=oP x hx;omega) (oP x hx).2);obtain⟨_,_,gk,ek,hWk,_,hok⟩:=GR.W.of_own (enc:=aS) aO hkW;cases ek
 obtain⟨_,_,gp,ep,hWp,_,hop⟩:=GR.W.of_own (enc:=fD) aU hpW;cases ep
 have hSQ:=pQ.blocks (w':=W') sw Aaa (λx hx=>hso x (by have:=sg x hx;omega)) (λx hx=>hso x (by have:=si x hx;omega))
 have mZ:Hid (NQ W' w.heap.size n ⟨ak,ap,ao,a,ar,ck,cp,co,cs,cr⟩ ⟨gk,gp,0,gs,0,I⟩ (Dr W0.heap.size W1.heap.size W2.heap.size W3.heap.size W4.heap.size gs)):=by
  refine⟨⟨hWk,hWp,lK (jK HOW (λx hx=>b3 x (by have:=oO x hx;omega) (oO x hx).2)) Aaa,hSQ.w,lK (jK HQW (λx hx=>b4 x (by have:=oQ x hx;omega) (oQ x hx).2)) Aaa,λx hx=>?_,λx hx=>?_,λx hx=>?_,λx hx=>?_,λx hx=>?_,λx hx=>?_,λx hx=>?_,snd⟩,hSQ⟩
  .unfold Dr;rw [aGC Aaa]
  .have:=oK x (hok x hx);unfold Dr;rw [aGr Aaa,aGC Aaa]
  .have:=oP x (hop x hx);unfold Dr;rw [aGr Aaa,aGr Aaa,aGC Aaa]
  .have:=oO x hx;unfold Dr;rw [aGr Aaa,aGr Aaa,aGr Aaa,aGC Aaa]
  .have:=sg x hx;have e:=(dQ hx).1;unfold Dr;rw [aGr Aaa,aGr Aaa,aGr Aaa,aGr Aaa,aGr Aaa,aGC e]
  .have h1:=si x hx;have e:x≠gs:=λe=>h1.2.2 (by rw [e];exact dX (by obtain⟨i,hi,_⟩:=qM hx;omega));unfold Dr;rw [aGr Aaa,aGr Aaa,aGr Aaa,aGr Aaa,aGr Aaa,aGr e]
  .have:=oQ x hx;unfold Dr;rw [aGr Aaa,aGr Aaa,aGr Aaa,aGr Aaa,aGC Aaa]
 clear e4 hSQ hso b4 b3 b2 b1 oK oP oO oQ sw sg si snd hkW hpW hWk hWp hok hop;exact aGn (v:= .agg (iT n.id n.par ak n.kids.length ck n.next ap n.pu.length cp ao n.out.length co a n.seen.length cs n.old ar n.reqs.length cr)) (by simp[results,results30,go_sem,c0,c1,c2,c3,c4,c5,c6,c7,c8]) rfl ⟨⟨ak,ap,ao,a,ar,ck,cp,co,cs,cr⟩,_,_,rfl,mZ,HBE,HPS.1,HPS.2,HRS⟩
end Go.Proofs.YtohmklmkjmlpjaaGreatDoor
