/- Parts. -/
import Derived.Test.YtfachhcijcjbpaaGreatDoorRw29
namespace Go.Proofs.YtfachhcijcjbpaaGreatDoor
open Go.Proofs.Tryz
set_option maxHeartbeats 8000000
open Go.RowKit
open Mth
theorem ou {P:Program} (w:World) (base:Nat) (t ty e:TypeId) (i:TypeInfo) (size:Nat) (ht:P.underlying t=some (.slice e)) (hi:P.info? e=some i)
 (v:Value) (n:Nat) (xs:List Value) (hown:w.ownsRow base e size v n xs) (a:Option Addr) (c:Nat):
 (Builtin.append_ #[t,t] ty #[v,.slice a 0 c]).run P w= .ok v w:=by
 rcases hown.2 with⟨rfl,rfl⟩|⟨g,cap,cur,rfl,_,_,hnc,_⟩
 .cases a<;>simp[Builtin.append_,run_underlying ht,sizeOf,typeInfo,hi,Builtin.lenOf,Builtin.firstCells,loadCells,loadCellsFrom]
 .cases a<;>simp[Builtin.append_,run_underlying ht,sizeOf,typeInfo,hi,Builtin.lenOf,Builtin.firstCells,loadCells,loadCellsFrom,hnc,storeCells]
theorem ql {P:Program} {α:Type} {enc:α->List Value} {sz:Nat} (hs:∀x,(enc x).length=sz) (hz:0 < sz) (w:World) (base:Nat) (t ty e:TypeId) (i:TypeInfo) (z:Value) (bytes:Nat) (ht:P.underlying t=some (.slice e)) (hi:P.info? e=some i) (hz0:i.zero=some z)
 (hsize:i.size=sz) (hby:i.bytes=bytes) (hzs:z.cells.size=sz) (v:Value) (n:Nat) (xs:List Value) (hown:w.ownsRow base e sz v n xs)
 (a:Option Addr) (l:List α) (c:Nat) (ha:GR.At enc sz w a l) (h1:∀u∈GR.flat enc l,u.oneCell'=true) (h63:n+l.length<=maxLen) (hbytes:(n+l.length)*bytes<=140737488355328) (hbase:base<=w.heap.size):
 ∃v' w',(Builtin.append_ #[t,t] ty #[v,.slice a l.length c]).run P w= .ok v' w'/\w'.ownsRow base e sz v' (n+l.length) (xs++GR.flat enc l)/\w.grownBy w' v.ownBlock/\∀x,v'.ownBlock=some x->v.ownBlock=some x\/w.heap.size<=x:=by
 by_cases hl:l.length=0
 .have hn:l=[]:=aEZ hl;subst hn;exact⟨v,w,ou w base t ty e i sz ht hi v n xs hown a c,by simpa [GR.flat] using hown,World.grownBy.refl _ _,λx hx=> .inl hx⟩
 .obtain⟨g,off,rfl,_⟩:=ha 0 Aaa;exact kC w base t ty e i z sz bytes ht hi hz0 hsize hby hzs hz v n xs hown ⟨g,off,none⟩ l.length c (GR.flat enc l) (GR.flat_length enc sz hs l) (Ku hs hz ha) h1 h63 hbytes hbase
theorem run_copy_row {P:Program} {α:Type} {enc:α->List Value} {sz:Nat} (hs:∀x,(enc x).length=sz) (hz:0 < sz) (w:World) (t e:TypeId) (i:TypeInfo) (z:Value) (bytes:Nat) (ht:P.underlying t=some (.slice e)) (hi:P.info? e=some i) (hz0:i.zero=some z)
 (hsize:i.size=sz) (hby:i.bytes=bytes) (hzs:z.cells.size=sz) (a:Option Addr) (l:List α) (c:Nat) (ha:GR.At enc sz w a l) (h1:∀u∈GR.flat enc l,u.oneCell'=true) (h63:l.length<=maxLen) (hbytes:l.length*bytes<=140737488355328):
 ∃a' c' w',(∀ty,(Builtin.append_ #[t,t] ty #[.slice (some ⟨w.heap.size,0,none⟩) 0 0,.slice a l.length c]).run P (w.alloc (.cells #[] e))= .ok (.slice a' l.length c') w')/\w'.ownsRow w.heap.size e sz (.slice a' l.length c') l.length (GR.flat enc l)/\aG w w'/\(∃g,a'=some ⟨g,0,none⟩)/\l.length<=c':=by
 open aut in exact ag9
theorem Jk {P:Program} {α:Type} {enc:α->List Value} {sz:Nat} (hs:∀x,(enc x).length=sz) (hz:0 < sz) (w:World) (t e:TypeId) (i:TypeInfo) (z:Value) (bytes:Nat) (ht:P.underlying t=some (.slice e)) (hi:P.info? e=some i) (hz0:i.zero=some z)
 (hsize:i.size=sz) (hby:i.bytes=bytes) (hzs:z.cells.size=sz) (a:Option Addr) (l:List α) (c:Nat) (ha:GR.At enc sz w a l) (h1:∀u∈GR.flat enc l,u.oneCell'=true) (h63:l.length<=maxLen) (hbytes:l.length*bytes<=140737488355328):
 ∃a' c' w',(∀ty,(Builtin.append_ #[t,t] ty #[.slice (some ⟨w.heap.size,0,none⟩) 0 0,.slice a l.length c]).run P (w.alloc (.cells #[] e))= .ok (.slice a' l.length c') w')/\w'.ownsRow w.heap.size e sz (.slice a' l.length c') l.length (GR.flat enc l)/\aG w w'/\(l=[]->c'=0):=by
 by_cases hl0:l.length=0
 .have hn:l=[]:=aEZ hl0;subst hn;open aus in exact ag9
 .obtain⟨a',c',w',q1,q2,q3,_⟩:=run_copy_row hs hz w t e i z bytes ht hi hz0 hsize hby hzs a l c ha h1 h63 hbytes;exact⟨a',c',w',q1,q2,q3,λe=>absurd (by rw [e];rfl) hl0⟩
theorem fK {P:Program} {w:World} {ops:Array Oper} {rest:List Oper} {o:Oper} {a:Act} {Q:Exit->Act->World->Prop} (hgd:o.guard=none) (s x:Operand) (t:TypeId)
 (ho:o.op= .call {callee:= .builtin .append,args:=#[s,x],argTypes:=#[t,t]}) (vs vx:Value) (hs:a.eval s=vs) (hx:a.eval x=vx) (v':Value) (w':World) (hrun:(Builtin.append_ #[t,t] o.type #[vs,vx]).run P w= .ok v' w')
 (h:wpList P ops Q rest (a.put o.dst v') w'):wpList P ops Q (o::rest) a w:=by
 refine wpList_plain hgd λK hK=>?_
 unfold Oper.wp;simp[execOp,ho,resolve,invoke,builtin,hs,hx,hrun,Result.andThen];exact hK _ _ h
set_option maxRecDepth 100000
theorem acN (a:Option Addr) (cap:Nat) (l:List Pu) (w:World) (hl:l.length<=1048600) (ha:aH w a l):
 Calls prog 95 #[.slice a l.length cap] w λe w'=>∃a' c',e= .returned (.slice a' l.length c')/\w'.ownsRow w.heap.size 142 4 (.slice a' l.length c') l.length (GR.flat fO l)/\aG w w'/\(∃g,a'=some ⟨g,0,none⟩)/\l.length<=c':=by
 obtain⟨i0,hi,hz0,hz1,hz2⟩:=aEY FN;obtain⟨a',c',y,hrun,hrow,hby,hsm⟩:=run_copy_row (P:=prog) (enc:=fO) aP Aaa w 48 142 i0 (.agg (iK ByteArray.empty 0 0 0)) 40 underlying48 hi hz0 hz1 hz2 rfl a l cap ha (Fe l) Aai Aaa;have HR:=Hq hrow;have HB:=Hq hby;have zF:=Hq hsm;clear ha hi hz0 hz1 hz2 hrow hby hsm;go_in
 go_wp2_with (at_builtin;refine fK rfl _ _ 48 rfl _ _ rfl rfl _ _ (hrun _) ?_)
 go_ret;exact⟨a',c',rfl,HR,HB,zF⟩
def Dp (s0 s1 s2 s3 s4 gs x:Nat):Nat:=if x < s0 then 0 else if x < s1 then 1 else if x < s2 then 2 else if x < s3 then 3 else if x < s4 then 6 else if x=gs then 4 else 5
structure SM (W4 wr:World) (ob k:Nat) (l:List Sn) (T2:List R3) (I:Nat->Nat) (a:Option Addr) (cs:Nat):Prop where
 len:T2.length=k
 own:wr.ownsRow W4.heap.size 144 3 (.slice a k cs) k (GR.flat eF T2)
 dn:∀i (hi:i < l.length),i < k->∃b c,T2[i]?=some ⟨l[i].f,l[i].l,.slice b l[i].ids.length c⟩/\WO wr b c (I i) l[i].ids/\∀x∈fp (I i) l[i].ids,W4.heap.size<=x/\x < wr.heap.size/\(Value.slice a k cs).ownBlock≠some x
 nd:∀i j (hi:i < l.length) (hj:j < l.length),i < j->j < k->0 < l[i].ids.length->0 < l[j].ids.length->I i≠I j
 kp:aC [ob] W4 wr
theorem SM.next {W4 wr x y:World} {ob k:Nat} {l:List Sn} {T2:List R3} {I:Nat->Nat} {a a2:Option Addr} {cs c2 gi cc:Nat} {b:Option Addr} (h:SM W4 wr ob k l T2 I a cs) (hk:k < l.length) (hob:ob < W4.heap.size) (hx:aG wr x)
 (hi:WO x b cc gi l[k].ids) (hlt:∀z∈fp gi l[k].ids,wr.heap.size<=z/\z < x.heap.size)
 (ho:y.ownsRow W4.heap.size 144 3 (.slice a2 (k+1) c2) (k+1) (GR.flat eF T2++eF ⟨l[k].f,l[k].l,.slice b l[k].ids.length cc⟩)) (hg:x.grownBy y (Value.slice a k cs).ownBlock) (hw:∀z,(Value.slice a2 (k+1) c2).ownBlock=some z->(Value.slice a k cs).ownBlock=some z\/x.heap.size<=z):
 SM W4 (y.setCell ⟨ob,6,none⟩ (.slice a2 (k+1) c2)) ob (k+1) l (T2++[⟨l[k].f,l[k].l,.slice b l[k].ids.length cc⟩]) (λi=>if i=k then gi else I i) a2 c2:=by
 have hs:y.heap.size=(y.setCell ⟨ob,6,none⟩ (.slice a2 (k+1) c2)).heap.size:=Aaq
 have hkp:aC [ob] y (y.setCell ⟨ob,6,none⟩ (.slice a2 (k+1) c2)):=aC.set _;have hx1:=hx.size;have hx2:=hg.size;have hx3:=h.kp.size;have hoo:=h.own.lt;have hxy:aC (Value.slice a k cs).ownBlock.toList x y:=⟨hg.os,hg.tape,hg.output,hg.size,λz hz hne=>hg.block z hz (λe=>hne (by rw [<-e];simp))⟩;refine⟨by simp[h.len],?_,λi hi' hik=>?_,λi j hi' hj hij hjk h1 h2=>?_,?_⟩
 .rw [GR.flat_append,GR.flat_one];exact dA ho hkp (λz hz=>by have:z=ob:=(by simpa using hz);omega)
 .by_cases e:i=k
  .subst e;refine⟨b,cc,by rw [List.getElem?_append_right (by rw [h.len];exact aEx _),h.len];simp,?_,?_⟩
   .rw [aER rfl];refine(hi.keeps hxy (λz hz hm=>?_)).keeps hkp (λz hz hm=>?_)
    .have h1:(Value.slice a i cs).ownBlock=some z:=Aax
     have:=(hoo z h1).2;have:=(hlt z hz).1;omega
    .have:=(hlt z hz).1;have:z=ob:=Aax;omega
   .rw [aER rfl];refine λz hz=>⟨by have:=(hlt z hz).1;omega,by rw [<-hs];have:=(hlt z hz).2;omega,λe2=>?_⟩
    rcases hw z e2 with h1|h1
    .have:=(hoo z h1).2;have:=(hlt z hz).1;omega
    .have:=(hlt z hz).2;omega
  .obtain⟨b',c',e1,e2,e3⟩:=h.dn i hi' Aaa;refine⟨b',c',by rw [aFO (by rw [h.len];omega)];exact e1,?_,?_⟩
   .rw [aEG e];refine((e2.below hx).keeps hxy (λz hz hm=>?_)).keeps hkp (λz hz hm=>?_)
    .exact(e3 z hz).2.2 Aax
    .have:=(e3 z hz).1;have:z=ob:=Aax;omega
   .rw [aEG e];refine λz hz=>⟨(e3 z hz).1,by rw [<-hs];have:=(e3 z hz).2.1;omega,λe4=>?_⟩
    rcases hw z e4 with h1|h1
    .exact(e3 z hz).2.2 h1
    .have:=(e3 z hz).2.1;omega
 .by_cases ej:j=k
  .subst ej;rw [aEG Aaa,aER rfl];obtain⟨_,_,_,_,e3⟩:=h.dn i hi' Aaa;have q1:=(e3 (I i) (dH h1)).2.1;have q2:=(hlt gi (dH h2)).1;omega
  .exact ajc
 .refine⟨hg.os.trans (hx.os.trans h.kp.os),hg.tape.trans (hx.tape.trans h.kp.tape),hg.output.trans (hx.output.trans h.kp.output),by rw [<-hs];omega,λz hz hm=>?_⟩;have hne:z≠ob:=Aax
  rw [aEU _ _ _ _ hne,hg.block z Aaa (λe=>by have:=(hoo z e.symm).1;omega),hx.block z Aaa];exact h.kp.block z hz hm
theorem SM.done {W4 wr:World} {ob:Nat} {l:List Sn} {T2:List R3} {I:Nat->Nat} {a:Option Addr} {cs:Nat} (h:SM W4 wr ob l.length l T2 I a cs):∃g,oH wr a g I l/\(∀x∈fp g l,W4.heap.size<=x)/\(∀x∈uo I l,W4.heap.size<=x/\x < wr.heap.size/\x∉fp g l)/\(uo I l).Nodup:=by
 open ati in exact agY
theorem uS (n:Nd) (A:bg) (w:World) (hz:eH n 1048576) (ha:bX w A n):
 Calls prog 67 #[gP n A] w λe w'=>∃A' G' c',e= .returned (gP n A')/\NQ w' w.heap.size n A' G' c'/\aG w w'/\(∃g,A'.p=some ⟨g,0,none⟩)/\n.pu.length<=A'.cp/\(∃g,A'.r=some ⟨g,0,none⟩)/\n.reqs.length<=A'.cr:=by
 have HZ:=Hq hz;have HA:=Hq ha;have hlk:=hz.k;have hlp:=hz.p;have hlo:=hz.o;have hls:=hz.s;have hlr:=hz.r;clear hz ha;go_in
 go_upto_region 2 with fail;refine wp_at (λW0 hW=>?_);obtain⟨e1,e2,e3,e4⟩:=fP w (.cells (dR n A) 53) (.cells kH 53) (.cells (dR n A) 53);rw [<-hW] at e1 e2 e3 e4;have vM:=Hq e1;have OU:=Hq e2;have EF:=Hq e3;have OD:=Hq e4;have hsz0:=ay e3;clear hW e1 e2 e3 e4;obtain⟨c0,c1,c2,c3,c4,c5,c6,c7,c8⟩:=nine vM;have akX:=ay vM;have aCm:=ay EF;obtain⟨i0,hi,hz0,hz1,hz2⟩:=aEY wP;obtain⟨ak,ck,aEq,hrun,hrow,hby,_⟩:=run_copy_row (P:=prog) (enc:=aW) aU Aaa W0 22 3 i0 (.int .i64 0) 8 underlying22 hi hz0 hz1 hz2 rfl A.k n.kids A.ck (GR.At.below HA.k OD) (by intro u hu;rw [Fh] at hu;obtain⟨z,_,rfl⟩:=aFS.1 hu;rfl) Aai Aaa;clear hi hz0 hz1 hz2;have Wm:=Hq hby;obtain⟨d0,d1,d2,d3,d4,d5,d6,d7,d8⟩:=nine (aj EF hby);have f1:=aA (aj EF hby) 2;have Uq:=ay (aj EF hby);clear hby;go_upto_region 3 with(at_builtin;refine fK rfl _ _ 22 rfl _ _ rfl rfl _ _ (hrun _) ?_)
 refine wp_at (λW1 hW=>?_);have hO1:=aj EF Wm;obtain⟨EG,OE,CS,Wi⟩:=cpy (cs':=dR n ⟨ak,A.p,A.o,A.s,A.r,ck,A.cp,A.co,A.cs,A.cr⟩) hW EF OD Wm Aaa rfl;have vN:=Hq (CS.obj vM Aae);have OV:=Hq (CS.obj OU Aac);clear hW hO1 vM OU EF;clear c0 c1 c2 c3 c4 c5 c6 c7 c8 d0 d1 d2 d3 d4 d5 d6 d7 d8 f1 Uq hrun;have HKW:Hid (W1.ownsRow W0.heap.size 3 1 (.slice ak n.kids.length ck) n.kids.length (GR.flat aW n.kids)):=dA hrow Wi (λx hx=>by have:x=w.heap.size+2:=Aad;omega);clear hrow;obtain⟨c0,c1,c2,c3,c4,c5,c6,c7,c8⟩:=nine vN;have akY:=ay vN;have aCn:=ay EG;go_wp2_with fail;refine(acN A.p A.cp n.pu W1 Aaa (GR.At.below HA.p OE)).mono ?_;rintro e aEr ⟨ap,cp,rfl,hrow,hby,hsm⟩;have HPS:=Hq hsm;clear hsm;have Wn:=Hq hby;obtain⟨d0,d1,d2,d3,d4,d5,d6,d7,d8⟩:=nine (aj EG hby);have f1:=aA (aj EG hby) 4;have Uq:=ay (aj EG hby);clear hby c0 c1 c2 c3 c4 c5 c6 c7 c8;go_upto_region 4 with fail;refine wp_at (λW2 hW=>?_);have hO1:=aj EG Wn;obtain⟨EH,OG,zw,Wj⟩:=cpy (cs':=dR n ⟨ak,ap,A.o,A.s,A.r,ck,cp,A.co,A.cs,A.cr⟩) hW EG OE Wn Aaa rfl;have vO:=Hq (zw.obj vN Aae);have OW:=Hq (zw.obj OV Aac);clear hW hO1 vN OV EG;clear d0 d1 d2 d3 d4 d5 d6 d7 d8 f1 Uq;have Ij:Hid (W2.ownsRow W1.heap.size 142 4 (.slice ap n.pu.length cp) n.pu.length (GR.flat fO n.pu)):=dA hrow Wj (λx hx=>by have:x=w.heap.size+2:=Aad;omega);clear hrow;obtain⟨c0,c1,c2,c3,c4,c5,c6,c7,c8⟩:=nine vO;have akZ:=ay vO;have aCo:=ay EH;obtain⟨i0,hi,hz0,hz1,hz2⟩:=aEY FT;obtain⟨ao,co,aEs,hrun,hrow,hby,_⟩:=run_copy_row (P:=prog) (enc:=aN) aX Aaa W2 49 129 i0 (.agg (gB 0 0 ByteArray.empty 0)) 40 underlying49 hi hz0 hz1 hz2 rfl A.o n.out A.co (GR.At.below HA.o OG) (CX _) Aai Aaa;clear hi hz0 hz1 hz2;have Wo:=Hq hby;obtain⟨d0,d1,d2,d3,d4,d5,d6,d7,d8⟩:=nine (aj EH hby);have f1:=aA (aj EH hby) 5;have Uq:=ay (aj EH hby);clear hby;go_upto_region 5 with(at_builtin;refine fK rfl _ _ 49 rfl _ _ rfl rfl _ _ (hrun _) ?_)
 refine wp_at (λW3 hW=>?_);have hO1:=aj EH Wo;obtain⟨EI,OH,zx,aaz⟩:=cpy (cs':=dR n ⟨ak,ap,ao,A.s,A.r,ck,cp,co,A.cs,A.cr⟩) hW EH OG Wo Aaa rfl;have xV:=Hq (zx.obj vO Aae);have OX:=Hq (zx.obj OW Aac);clear hW hO1 vO OW EH;clear c0 c1 c2 c3 c4 c5 c6 c7 c8 d0 d1 d2 d3 d4 d5 d6 d7 d8 f1 Uq hrun;have HOW:Hid (W3.ownsRow W2.heap.size 129 4 (.slice ao n.out.length co) n.out.length (GR.flat aN n.out)):=dA hrow aaz (λx hx=>by have:x=w.heap.size+2:=Aad;omega);clear hrow;obtain⟨c0,c1,c2,c3,c4,c5,c6,c7,c8⟩:=nine xV;have ak0:=ay xV;have aCp:=ay EI;obtain⟨i0,hi,hz0,hz1,hz2⟩:=aEY Ai;obtain⟨ar,cr,aEt,hrun,hrow,hby,hsr⟩:=run_copy_row (P:=prog) (enc:=aM) bQ Aaa W3 51 133 i0 (.agg (gJ 0 ByteArray.empty 0 0)) 40 underlying51 hi hz0 hz1 hz2 rfl A.r n.reqs A.cr (GR.At.below HA.r OH) (mV _) Aai Aaa;clear hi hz0 hz1 hz2;have HRS:=Hq hsr;clear hsr;have agz:=Hq hby;obtain⟨d0,d1,d2,d3,d4,d5,d6,d7,d8⟩:=nine (aj EI hby);have f1:=aA (aj EI hby) 8;have Uq:=ay (aj EI hby);clear hby;go_upto_region 6 with(at_builtin;refine fK rfl _ _ 51 rfl _ _ rfl rfl _ _ (hrun _) ?_)
 refine wp_at (λW4 hW=>?_);have hO1:=aj EI agz;obtain⟨VY,JL,CU,amP⟩:=cpy (cs':=dR n ⟨ak,ap,ao,A.s,ar,ck,cp,co,A.cs,cr⟩) hW EI OH agz Aaa rfl;have xW:=Hq (CU.obj xV Aae);have VZ:=Hq (CU.obj OX Aac);clear hW hO1 xV OX EI;clear c0 c1 c2 c3 c4 c5 c6 c7 c8 d0 d1 d2 d3 d4 d5 d6 d7 d8 f1 Uq hrun;have HQW:Hid (W4.ownsRow W3.heap.size 133 4 (.slice ar n.reqs.length cr) n.reqs.length (GR.flat aM n.reqs)):=dA hrow amP (λx hx=>by have:x=w.heap.size+2:=Aad;omega);clear hrow;obtain⟨c0,c1,c2,c3,c4,c5,c6,c7,c8⟩:=nine xW;have ak1:=ay xW;have ab7:=ay VY;obtain⟨d0,d1,d2,d3,d4,d5,d6,d7,d8⟩:=nine VY;have f6:=aA VY 6;go_upto_region 7 with fail;refine wp_at (λZ hZ=>?_);have afn:(W4.setCell ⟨w.heap.size+2,6,none⟩ (.slice (some ⟨W4.heap.size,0,none⟩) 0 0)).heap.size=W4.heap.size:=Aaq
 have hZo:Z.ownsRow W4.heap.size 144 3 (.slice (some ⟨W4.heap.size,0,none⟩) 0 0) 0 []:=by
  have hlit:=aFb (base:=W4.heap.size) (e:=144) (size:=3) (W4.setCell ⟨w.heap.size+2,6,none⟩ (.slice (some ⟨W4.heap.size,0,none⟩) 0 0)) #[] 0 (by rw [afn];exact aEx _) Aai Aac;rw [afn] at hlit;rw [hZ];exact hlit
 have hZk:aC [w.heap.size+2] W4 Z:=by rw [hZ];exact(aC.set _).trans (aC.of_below (au _ _))
 have hZb:Z.heap[w.heap.size+2]?=some (.cells (vG n.id n.par ak n.kids.length ck n.next ap n.pu.length cp ao n.out.length co (some ⟨W4.heap.size,0,none⟩) 0 0 n.old ar n.reqs.length cr) 53 (0,0)):=by
  rw [hZ];exact(aEI _ _ _ (by rw [afn];exact ab7)).trans (Dg VY)
 have HZF:=Hq (And.intro hZo (And.intro hZk hZb));clear hZ afn hZo hZk hZb c0 c1 c2 c3 c4 c5 c6 c7 c8 d0 d1 d2 d3 d4 d5 d6 d7 d8 f6;go_wp2_with fail;go_loopw [4] (λi wr=>∃(k:Nat) (T2:List R3) (I:Nat->Nat) (a:Option Addr) (cs:Nat),k<=n.seen.length/\i= .int .i64 k/\SM W4 wr (w.heap.size+2) k n.seen T2 I a cs/\wr.heap[w.heap.size+2]?=some (.cells (vG n.id n.par ak n.kids.length ck n.next ap n.pu.length cp ao n.out.length co a k cs n.old ar n.reqs.length cr) 53 (0,0))) (λi _=>n.seen.length - (intOf i).toNat)
 case atStart=>
  exact⟨0,[],λ_=>0,some ⟨W4.heap.size,0,none⟩,0,aEN _,rfl,⟨rfl,HZF.1,λi hi h=>Aaa,λi j _ _ _ h=>Aaa,HZF.2.1⟩,HZF.2.2⟩
 case' round=>
  obtain⟨k,T2,I,a,cs,hk,rfl,hsm,ayo⟩:=hrel
  have zF:=Hq hsm
  have HOB:=Hq ayo
  have SK:=Hq (hsm.kp.obj xW Aac)
  have HRr:=Hq (hsm.kp.obj VZ Aac)
  have HBr:=Hq (JL.trans (hsm.kp.below (λx hx=>by have:x=w.heap.size+2:=Aad;omega) JL.size))
  have aDr:=hsm.kp.size
  clear hsm ayo
  obtain⟨c0,c1,c2,c3,c4,c5,c6,c7,c8⟩:=nine SK
  have hnr:=ay SK
  by_cases hlt:k < n.seen.length
  case' pos=>
   have P7:(k:Int) < (n.seen.length:Int):=Aaa
   obtain⟨g,off,b,cc,e0,hg,q0,q1,q2,hIb⟩:=gT.below HA.s HBr k hlt
   have HSN:=Hq (λx y a2 c2 gi b cc hx hi hlt2 ho hg hw=>SM.next (x:=x) (y:=y) (a2:=a2) (c2:=c2) (gi:=gi) (b:=b) (cc:=cc) zF hlt ab7 hx hi hlt2 ho hg hw)
   have hil:=HZ.sk _ (aEL hlt)
   have HIB:=Hq hIb
   rw [e0] at c6
   clear hIb e0
   generalize n.seen[k]=s0 at *
   obtain⟨sf,sl,ids⟩:=s0
   dsimp only at q0 q1 q2 HSN HIB hil
   go_upto_region 11 with fail
   refine wp_at (λX1 hX=>?_)
   have e1:X1.heap[wr.heap.size]?=some (.cells #[.int .i64 sf,.int .i64 sl,.slice b ids.length cc] 144 (0,0)):=by rw [hX];exact aEu _ _
   have e2:aG wr X1:=by rw [hX];exact au _ _
   have E1:=Hq e1
   have E2:=Hq e2
   have afp:=ay e1
   obtain⟨s0,s1,s2⟩:=three e1
   clear hX e1 e2 q0 q1 q2 c0 c1 c2 c3 c4 c5 c6 c7 c8
   obtain⟨i0,hi,hz0,hz1,hz2⟩:=aEY wP
   obtain⟨b2,Pz,y2,hrun,hrow,hby,hq0⟩:=Jk (P:=prog) (enc:=aW) aU Aaa X1 22 3 i0 (.int .i64 0) 8 underlying22 hi hz0 hz1 hz2 rfl b ids cc (GR.At.below HIB E2) (by intro u hu;rw [Fh] at hu;obtain⟨z,_,rfl⟩:=aFS.1 hu;rfl) Aai Aaa
   have hE3:=aj E1 hby
   have f2:=aA hE3 2
   have hl3:=ay hE3
   obtain⟨t0,t1,t2⟩:=three hE3
   have HE3:=Hq hE3
   have Eu:=Hq hby
   clear hi hz0 hz1 hz2 hby hE3
   go_upto_region 12 with(at_builtin;refine fK rfl _ _ 22 rfl _ _ rfl rfl _ _ (hrun _) ?_)
   refine wp_at (λX2 hX=>?_)
   have e3:X2.heap[wr.heap.size]?=some (.cells #[.int .i64 sf,.int .i64 sl,.slice b2 ids.length Pz] 144 (0,0)):=by rw [hX];exact aT HE3 2 (.slice b2 ids.length Pz)
   have e4:aG wr X2:=by
    rw [hX];exact(E2.trans (Eu.mono E2.size)).setCell (p:=⟨wr.heap.size,2,none⟩) (aEx _) _
   have hv2:aC [wr.heap.size] y2 X2:=by rw [hX];exact aC.set _
   obtain⟨_,_,g2,e5,hW2,hg2,_⟩:=GR.W.of_own (enc:=aW) aU hrow
   cases e5
   have hW3:=(WO.of_own hW2 hrow hq0).keeps hv2 (λz hz=>by have:=(hg2 z hz).1;simp;omega)
   have hg3:∀z∈fp g2 ids,wr.heap.size<=z/\z < X2.heap.size:=λz hz=>⟨by have:=(hg2 z hz).1;omega,aEH (hg2 z hz).2 hv2.size⟩
   clear hX hq0 hrow hW2 hg2 hv2 s0 s1 s2 t0 t1 t2 f2 hl3 hrun
   have JO:=Hq (aj HOB e4)
   obtain⟨c0,c1,c2,c3,c4,c5,c6,c7,c8⟩:=nine JO
   have hl4:=ay JO
   obtain⟨s0,s1,s2⟩:=three e3
   have hl5:=ay e3
   obtain⟨i0,hi,hz0,hz1,hz2⟩:=aEY FQ
   have ayn:=zF.len
   have hown3:=GR.own_below zF.own (e4.trans ((au X2 (.cells #[.int .i64 sf,.int .i64 sl,.slice b2 ids.length Pz] 144)).mono e4.size))
   have hblk:GR.Blk eF 144 (X2.alloc (.cells #[.int .i64 sf,.int .i64 sl,.slice b2 ids.length Pz] 144)) X2.heap.size [⟨sf,sl,.slice b2 ids.length Pz⟩]:=aEu X2 _
   obtain⟨v6,y6,ayt,hown6,qP,hw6⟩:=ql (P:=prog) (enc:=eF) bf Aaa (X2.alloc (.cells #[.int .i64 sf,.int .i64 sl,.slice b2 ids.length Pz] 144)) W4.heap.size 50 50 144 i0 (.agg #[.int .i64 0,.int .i64 0,.slice none 0 0]) 40 underlying50 hi hz0 hz1 hz2 rfl (.slice a k cs) k (GR.flat eF T2) hown3 (some ⟨X2.heap.size,0,none⟩) [⟨sf,sl,.slice b2 ids.length Pz⟩] 1 (hblk.at bf) (by intro u hu;rw [GR.flat_one] at hu;simp only[eF,aET,aFt,or_false] at hu;rcases hu with rfl|rfl|rfl<;>rfl) (by unfold maxLen;simp;omega) Aae (by have:=e4.size;simp;omega)
   rw [GR.flat_one] at hown6
   have hform:∃a6 c6,v6= .slice a6 (k+1) c6:=by
    have h6:=hown6;rw [<-GR.flat_one (enc:=eF),<-GR.flat_append] at h6;have hl6:(T2++[(⟨sf,sl,.slice b2 ids.length Pz⟩:R3)]).length=k+1:=by simp[ayn]
    have h7:y6.ownsRow W4.heap.size 144 3 v6 (T2++[(⟨sf,sl,.slice b2 ids.length Pz⟩:R3)]).length (GR.flat eF (T2++[⟨sf,sl,.slice b2 ids.length Pz⟩])):=by rw [hl6];exact h6
    obtain⟨a6,c6',e6,_⟩:=GR.own_at (enc:=eF) (sz:=3) bf h7;rw [hl6] at e6;exact⟨a6,c6',e6⟩
   obtain⟨a6,cc6,rfl⟩:=hform
   have ab6:y6.heap[w.heap.size+2]?=some (.cells (vG n.id n.par ak n.kids.length ck n.next ap n.pu.length cp ao n.out.length co a k cs n.old ar n.reqs.length cr) 53 (0,0)):=by
    rw [qP.block _ Aae (λe=>by have:=((ah zF).own.lt _ e.symm).1;omega)];exact aj JO (au X2 _)
   have azR:=Hq (HSN (X2.alloc (.cells #[.int .i64 sf,.int .i64 sl,.slice b2 ids.length Pz] 144)) y6 a6 cc6 g2 b2 Pz (e4.trans ((au X2 _).mono e4.size)) (hW3.below (au X2 _)) (λz hz=>⟨(hg3 z hz).1,by have:=(hg3 z hz).2;simp;omega⟩) hown6 qP hw6)
   have azT:=Hq ab6
   obtain⟨d0,d1,d2,d3,d4,d5,d6,d7,d8⟩:=nine ab6
   have f6:=aA ab6 6
   have hl6:=ay ab6
   clear hi hz0 hz1 hz2 hown3 hblk hown6 qP hw6 ab6 HSN hW3 hg3 e3 e4
   go_wp2_with (at_builtin;refine fK rfl _ _ 50 rfl _ _ rfl rfl _ _ ayt ?_)
   go_roundw
   case rel=>
    exact⟨k+1,_,_,a6,cc6,Aaa,Aaf,azR,Dg azT⟩
   case measure=>simp[intOf];omega
  have hke:k=n.seen.length:=Aaa
  subst hke
  have hnlt:decide ((n.seen.length:Int) < (n.seen.length:Int))=false:=Aac
  go_upto_region 13 with fail
  refine wp_at (λW5 hWW=>?_)
  subst hWW
  obtain⟨gs,hsn⟩:=zF.done
  have HSN:=Hq hsn
  have EA:=Hq zF.kp
  clear hsn zF c0 c1 c2 c3 c4 c5 c6 c7 c8
 obtain⟨c0,c1,c2,c3,c4,c5,c6,c7,c8⟩:=nine HOB;obtain⟨d0,d1,d2,d3,d4,d5,d6,d7,d8⟩:=nine HRr;obtain⟨f0,f1,f2,f3,f4,f5,f6,f7,f8⟩:=mX HRr;have aCi:=ay HOB;have aCs:=ay HRr;go_wp2_with fail;refine oU results67 rfl rfl HRr (λW' e4 eX hso hsz=>?_);have HBE:Hid (aG w W'):=HBr.trans (eX.below (λx hx=>Aaj) HBr.size);clear c0 c1 c2 c3 c4 c5 c6 c7 c8 d0 d1 d2 d3 d4 d5 d6 d7 d8 f0 f1 f2 f3 f4 f5 f6 f7 f8;have k0:=CS.size;have k1:=zw.size;have k2:=zx.size;have k3:=CU.size;have k4:=EA.size;have b4:∀x,w.heap.size+2 < x->x < W4.heap.size->W'.heap[x]?=W4.heap[x]?:=λx h1 h2=>(hso x Aaa).trans (EA.block x h2 Aae)
 have b3:∀x,w.heap.size+2 < x->x < W3.heap.size->W'.heap[x]?=W3.heap[x]?:=λx h1 h2=>(b4 x h1 Aaa).trans (CU.block x h2 Aae)
 have b2:∀x,w.heap.size+2 < x->x < W2.heap.size->W'.heap[x]?=W2.heap[x]?:=λx h1 h2=>(b3 x h1 Aaa).trans (zx.block x h2 Aae)
 have b1:∀x,w.heap.size+2 < x->x < W1.heap.size->W'.heap[x]?=W1.heap[x]?:=λx h1 h2=>(b2 x h1 Aaa).trans (zw.block x h2 Aae)
 have oK:=HKW.lt;have oP:=Ij.lt;have oO:=HOW.lt;have oQ:=HQW.lt;obtain⟨sw,sg,si,snd⟩:=ah HSN;have hkW:=jf HKW (w':=W') (λx hx=>b1 x (by have:=oK x hx;omega) (oK x hx).2);have hpW:=jf Ij (w':=W') (λx hx=>b2 x (by have:=oP x hx;omega) (oP x hx).2);obtain⟨_,_,gk,ek,hWk,_,hok⟩:=GR.W.of_own (enc:=aW) aU hkW;cases ek
 obtain⟨_,_,gp,ep,hWp,_,hop⟩:=GR.W.of_own (enc:=fO) aP hpW;cases ep
 have hSQ:=oH.blocks (w':=W') sw Aaa (λx hx=>hso x (by have:=sg x hx;omega)) (λx hx=>hso x (by have:=si x hx;omega))
 have jD:Hid (NQ W' w.heap.size n ⟨ak,ap,ao,a,ar,ck,cp,co,cs,cr⟩ ⟨gk,gp,0,gs,0,I⟩ (Dp W0.heap.size W1.heap.size W2.heap.size W3.heap.size W4.heap.size gs)):=by
  refine⟨⟨hWk,hWp,kX (jf HOW (λx hx=>b3 x (by have:=oO x hx;omega) (oO x hx).2)) Aaa,hSQ.w,kX (jf HQW (λx hx=>b4 x (by have:=oQ x hx;omega) (oQ x hx).2)) Aaa,λx hx=>?_,λx hx=>?_,λx hx=>?_,λx hx=>?_,λx hx=>?_,λx hx=>?_,λx hx=>?_,snd⟩,hSQ⟩
  .unfold Dp;rw [aER Aaa]
  .have:=oK x (hok x hx);unfold Dp;rw [aEG Aaa,aER Aaa]
  .have:=oP x (hop x hx);unfold Dp;rw [aEG Aaa,aEG Aaa,aER Aaa]
  .have:=oO x hx;unfold Dp;rw [aEG Aaa,aEG Aaa,aEG Aaa,aER Aaa]
  .have:=sg x hx;have e:=(dz hx).1;unfold Dp;rw [aEG Aaa,aEG Aaa,aEG Aaa,aEG Aaa,aEG Aaa,aER e]
  .have h1:=si x hx;have e:x≠gs:=λe=>h1.2.2 (by rw [e];exact dH (by obtain⟨i,hi,_⟩:=uK hx;omega));unfold Dp;rw [aEG Aaa,aEG Aaa,aEG Aaa,aEG Aaa,aEG Aaa,aEG e]
  .have:=oQ x hx;unfold Dp;rw [aEG Aaa,aEG Aaa,aEG Aaa,aEG Aaa,aER Aaa]
 clear e4 eX hSQ hso b4 b3 b2 b1 oK oP oO oQ sw sg si snd hkW hpW hWk hWp hok hop;exact⟨⟨ak,ap,ao,a,ar,ck,cp,co,cs,cr⟩,_,_,rfl,jD,HBE,HPS.1,HPS.2,HRS⟩
theorem put_comm {a:Act} {d d':Nat} {v v':Value} (h:d≠d'):(a.put (some d) v).put (some d') v'=(a.put (some d') v').put (some d) v:=by
 unfold Act.put;simp only[Array.setIfInBounds_comm _ _ h]
theorem oq {a:Act} {d t:Nat} {v:Value} (h:d≠t):(a.put (some d) v).eval (.tmp t)=a.eval (.tmp t):=by
 simp[Act.put,Act.eval,Array.getElem?_setIfInBounds_ne h]
theorem put_eq {a:Act} {d:Nat} {v:Value} (h:d < a.tmps.size):(a.put (some d) v).eval (.tmp d)=v:=by
 simp[Act.put,Act.eval,h]
section
variable {α:Type} {enc:α->List Value} {te:TypeId} {sz:Nat}
structure Ins (enc:α->List Value) (te:TypeId) (sz:Nat) (w:World) (v:Value) (l:List α) (r:Option Nat) (e:α) (x:World):Prop where
 bel:aG w x
 own:x.ownsRow w.heap.size te sz v l.length (GR.flat enc l)
 one:∀g,r=some g->x.heap[g]?=some (.cells (enc e).toArray te (0,0))/\∀q,v.ownBlock=some q->q≠g
variable {w x y:World} {v:Value} {l:List α} {r:Option Nat} {e:α}
theorem Ins.ge (h:Ins enc te sz w v l r e x) (hy:Ge x y):Ins enc te sz w v l r e y:=
 ⟨h.bel.trans (hy.mono h.bel.size),GR.own_below h.own hy,λg hg=>⟨aj (h.one g hg).1 hy,(h.one g hg).2⟩⟩
theorem Ins.lit0 (h:Ins enc te sz w v l r e x):Ins enc te sz w (.slice (some ⟨x.heap.size,0,none⟩) 0 0) [] r e (x.alloc (.cells #[] te)):=
 ⟨(h.ge (au x _)).bel,aFb x #[] 0 h.bel.size Aai Aac,λg hg=>⟨((h.ge (au x _)).one g hg).1,λq hq=>by
   have:=ay (h.one g hg).1
   simp[Value.ownBlock] at hq
   omega⟩⟩
theorem Ins.lit1 (h:Ins enc te sz w v l r e x):Ins enc te sz w v l (some x.heap.size) e (x.alloc (.cells (enc e).toArray te)):=
 ⟨(h.ge (au x _)).bel,(h.ge (au x _)).own,λg hg=>by
   cases hg
   exact⟨aEu x _,λq hq=>by have:=(h.own.lt q hq).2;omega⟩⟩
theorem Ins.app {v':Value} {k:List α} (h:Ins enc te sz w v l r e x) (hy:y.ownsRow w.heap.size te sz v' (l.length+k.length) (GR.flat enc l++GR.flat enc k)) (hg:x.grownBy y v.ownBlock) (hw:∀q,v'.ownBlock=some q->v.ownBlock=some q\/x.heap.size<=q):
 Below w.heap.size x y/\Ins enc te sz w v' (l++k) r e y:=
 ⟨(aEK _ _).grown hg h.bel.size (λq hq=>(h.own.lt q hq).1),h.bel.grown hg h.bel.size (λq hq=>(h.own.lt q hq).1),by rw [aEC,GR.flat_append];exact hy,λg hr=>⟨by
   rw [hg.block _ (ay (h.one g hr).1) (λhm=>(h.one g hr).2 _ hm.symm rfl)];exact(h.one g hr).1,λq hq=>(hw q hq).elim ((h.one g hr).2 q) (λh'=>by have:=ay (h.one g hr).1;omega)⟩⟩
abbrev aaC (ops:Array Oper) (i:Nat) (o:Oper) (p:Op) (d:Nat):Prop:=ops[i]?=some o/\o.op=p/\o.dst=some d/\o.guard=none
abbrev apO (t:TypeId) (a b:Nat):Op:= .call {callee:= .builtin .append,args:=#[.tmp a,.tmp b],argTypes:=#[t,t]}
abbrev sx (L:Array Bool) (i:Nat):Array Bool:=L.setIfInBounds i true
variable {P:Program} {ops:Array Oper} {Q:Exit->Act->World->Prop} {E:Nat} {md:Region.Mode}
theorem Hw {i:TypeInfo} {ts:TypeId} {z:Value} {bytes:Nat} (i0 i4 i7 i8 i12 d0 d4 d7 d8 d12 X R S:Nat) {f:Nat} {L:Array Bool} {a:Act} {A B:Option Addr} {l k:List α} {c c' m n:Nat} {ve:Value}
 (hs:∀x,(enc x).length=sz) (hz:0 < sz) (h1:∀x,∀u∈enc x,u.oneCell'=true) (ht:P.underlying ts=some (.slice te)) (hi:P.info? te=some i) (hz0:i.zero=some z) (hsz:i.size=sz) (hby:i.bytes=bytes) (hzs:z.cells.size=sz)
 (hA:GR.At enc sz w A l) (hB:GR.At enc sz w B k) (hlm:l.length=m) (hkn:k.length=n) (hlen:m+1+n<=1048576) (aBO:bytes<=1048576) (hsz2:sz<=1048576)
 (hR:a.eval (.tmp R)= .slice A m c) (hS:a.eval (.tmp S)= .slice B n c') (hX:a.eval (.tmp X)=ve)
 (hf:Instr.fill (λq=>some (q*sz,sz)) ((Array.range (1*sz)).map (z.cells[·% z.cells.size]!)) [(0,ve)]=some (enc e).toArray)
 {o0 o4 o7 o8 o12:Oper}
 (h0:aaC ops i0 o0 (.buildSlice ts 0 #[]) d0)
 (h4:aaC ops i4 o4 (apO ts d0 R) d4)
 (h7:aaC ops i7 o7 (.buildSlice ts 1 #[(0,.tmp X)]) d7)
 (h8:aaC ops i8 o8 (apO ts d4 d7) d8)
 (h12:aaC ops i12 o12 (apO ts d8 S) d12)
 (hd:decide (d0 < a.tmps.size/\d4 < a.tmps.size/\d7 < a.tmps.size/\d8 < a.tmps.size/\[d0,d4,d7,d8,X,R,S].Nodup/\[i0,i4,i7,i8,i12].Nodup/\E∉[i0,i4,i7,i8,i12])=true)
 (r0:Region.ready md ops L=[i0,i7]:=by kernel_rfl) (r1:Region.ready md ops (sx L i0)=[i4,i7]:=by kernel_rfl) (r2:Region.ready md ops (sx L i7)=[i0]:=by kernel_rfl)
 (r3:Region.ready md ops (sx (sx L i0) i4)=[i7]:=by kernel_rfl) (r4:Region.ready md ops (sx (sx L i0) i7)=[i4]:=by kernel_rfl)
 (r5:Region.ready md ops (sx (sx (sx L i0) i4) i7)=[i8]:=by kernel_rfl) (r6:Region.ready md ops (sx (sx (sx (sx L i0) i4) i7) i8)=[i12]:=by kernel_rfl)
 (H:∀v0 v4 v7 v8 v12 y,aG w y->y.ownsRow w.heap.size te sz v12 (l++[e]++k).length (GR.flat enc (l++[e]++k))->lF P md ops Q E w.heap.size f ((sx (sx (sx (sx L i0) i4) i7) i8).setIfInBounds i12 true) (((((a.put (some d0) v0).put (some d4) v4).put (some d7) v7).put (some d8) v8).put (some d12) v12) y):
 lF P md ops Q E w.heap.size (f+5) L a w:=by
 subst hsz hby hlm hkn
 have hd':=aEQ hd
 simp only[List.nodup_cons,aET,aFt,not_or,or_false,not_false_eq_true,List.nodup_nil,and_true] at hd'
 obtain⟨s0,s4,s7,s8,⟨⟨a1,a2,a3,a4,a5,a6⟩,⟨b1,b2,b3,b4,b5⟩,⟨c1,c2,c3,c4⟩,⟨e1,e2,e3⟩,⟨f1,f2⟩,g1⟩,⟨⟨j1,j2,j3,j4⟩,⟨k1,k2,k3⟩,⟨m1,m2⟩,n1⟩,p0,p4,p7,p8,p12⟩:=hd'
 have wt:∀{o:Oper} {a':Act},o.guard=none->Region.wanted o (yielded ops a'.tmps)=true:=λh=>by simp[Region.wanted,h]
 obtain⟨q0,q0',aCR,g0⟩:=h0
 obtain⟨q4,q4',azc,g4⟩:=h4
 obtain⟨q7,q7',aCT,g7⟩:=h7
 obtain⟨q8,q8',aCU,g8⟩:=h8
 obtain⟨q12,aCS,ayQ,g12⟩:=h12
 have hmx:(1048576:Nat)<=maxLen:=Aai
 have hbb:∀m,m<=1048576->m*i.bytes<=140737488355328:=λm h=>aEA (Nat.mul_le_mul h aBO) Aag
 have hfl:∀q:List α,∀u∈GR.flat enc q,u.oneCell'=true:=λq u hu=>by
  obtain⟨t,_,ht'⟩:=aFQ.1 hu
  exact h1 t u ht'
 have mk0:∀{v l r K} {a':Act} {x:World},Ins enc te i.size w v l r e x->(∀u y,Below w.heap.size x y->Ins enc te i.size w u [] r e y->K (a'.put (some d0) u) y)->o0.wp P a' x K Q:=λ{v l r K a' x} h hK=>by
  unfold Oper.wp execOp
  simp[q0',aCR,Instr.buildSlice,run_underlying ht,sizeOf,typeInfo,hi,Instr.fill,newRow,Oper.upon]
  rw [show(Array.range 0).map (λ_=>(default:Value))=#[] by simp]
  exact hK _ _ ((au x _).mono h.bel.size) h.lit0
 have mk7:∀{v l r K} {a':Act} {x:World},Ins enc te i.size w v l r e x->a'.eval (.tmp X)=ve->(∀g y,Below w.heap.size x y->Ins enc te i.size w v l (some g) e y->K (a'.put (some d7) (.slice (some ⟨g,0,none⟩) 1 1)) y)->o7.wp P a' x K Q:=λ{v l r K a' x} h hX' hK=>by
  refine wp_buildSlice ts te 1 _ q7' (enc e).toArray i z ht hi hz0 Aaa Aaa ?_ ?_
  .simp only[List.map_toArray,List.map_cons,List.map_nil,hX'];rw [<-hzs] at hf ⊢;exact hf
  .rw [aCT];exact hK _ _ ((au x _).mono h.bel.size) h.lit1
 have ap:∀{o:Oper} {d s t:Nat} {v l k r K} {a':Act} {x:World} {A:Option Addr} {c:Nat},o.op=apO ts s t->o.dst=some d->Ins enc te i.size w v l r e x->a'.eval (.tmp s)=v->a'.eval (.tmp t)= .slice A k.length c->GR.At enc i.size x A k->l.length+k.length<=1048576->
  (∀v' y,Below w.heap.size x y->Ins enc te i.size w v' (l++k) r e y->K (a'.put (some d) v') y)->o.wp P a' x K Q:=λ{o d s t v l k r K a' x A c} hop hdst h hsv htv hat hl hK=>by
  obtain⟨v',y,hr,hy,hg,hw⟩:=ql (P:=P) hs hz x w.heap.size ts o.type te i z i.bytes ht hi hz0 rfl rfl hzs v l.length (GR.flat enc l) h.own A k c hat (hfl k) (aEA hl hmx) (hbb _ hl) h.bel.size
  have h2:=h.app hy hg hw
  refine aGx x (.tmp s) (.tmp t) ts ts hop _ _ hsv htv v' y hr ?_
  rw [hdst]
  exact hK v' y h2.1 h2.2
 have hI0:Ins enc te i.size w (.slice none 0 0) [] none e w:=⟨aEK _ _,World.ownsRow_nil w _ te i.size,λg hg=>by cases hg⟩
 have hone:∀{g:Nat} {y:World},y.heap[g]?=some (.cells (enc e).toArray te (0,0))->GR.At enc i.size y (some ⟨g,0,none⟩) [e]:=λ{g y} h q hq=>by
  obtain rfl:q=0:=Abe
  exact⟨g,0,rfl,ay h,λj hj=>by rw [aEz y g _ _ _ (0,0) h];simp⟩
 have T2:∀v0 v4 g x,Ins enc te i.size w v4 l (some g) e x->lF P md ops Q E w.heap.size (f+2) (sx (sx (sx L i0) i4) i7) (((a.put (some d0) v0).put (some d4) v4).put (some d7) (.slice (some ⟨g,0,none⟩) 1 1)) x:=λv0 v4 g x h=>by
  refine iT i8 q8 r5 (wt g8) (Ne.symm p8) (λy hy=>?_)
  have h':=h.ge hy
  refine ap (k:=[e]) (c:=1) q8' aCU h' ((oq (Ne.symm b1)).trans (put_eq (by simpa [Act.put] using s4))) (put_eq (by simpa [Act.put] using s7)) (hone (h'.one g rfl).1) Aae (λv8 y' hy' hI=>⟨hy',?_⟩)
  refine iT i12 q12 r6 (wt g12) (Ne.symm p12) (λy2 hy2=>?_)
  have hI2:=hI.ge hy2
  refine ap (k:=k) (c:=c') aCS ayQ hI2 (put_eq (by simpa [Act.put] using s8)) (((oq e3).trans ((oq c4).trans ((oq b5).trans (oq a6)))).trans hS) (hB.below hI2.bel) Aae (λv12 y3 hy3 SV=>⟨hy3,H _ _ _ _ _ y3 SV.bel SV.own⟩)
 have S20:∀v0 v4 x,Ins enc te i.size w v4 l none e x->lF P md ops Q E w.heap.size (f+3) (sx (sx L i0) i4) ((a.put (some d0) v0).put (some d4) v4) x:=λv0 v4 x h=>by
  refine iT i7 q7 r3 (wt g7) (Ne.symm p7) (λy hy=>?_)
  exact mk7 (h.ge hy) (((oq b3).trans (oq a4)).trans hX) (λg y' hy' hI=>⟨hy',T2 _ _ _ _ hI⟩)
 have S11:∀v0 g x,Ins enc te i.size w v0 [] (some g) e x->lF P md ops Q E w.heap.size (f+3) (sx (sx L i0) i7) ((a.put (some d0) v0).put (some d7) (.slice (some ⟨g,0,none⟩) 1 1)) x:=λv0 g x h=>by
  refine iT i4 q4 r4 (wt g4) (Ne.symm p4) (λy hy=>?_)
  have h':=h.ge hy
  refine ap (k:=l) (c:=c) q4' azc h' ((oq (Ne.symm a2)).trans (put_eq s0)) (((oq c3).trans (oq a5)).trans hR) (hA.below h'.bel) Aae (λv4 y' hy' hI=>⟨hy',?_⟩)
  rw [put_comm (Ne.symm b1),Array.setIfInBounds_comm _ _ (Ne.symm k1)]
  exact T2 _ _ _ _ hI
 have S10:∀v0 x,Ins enc te i.size w v0 [] none e x->lF P md ops Q E w.heap.size (f+4) (sx L i0) (a.put (some d0) v0) x:=λv0 x h=>by
  refine uT i4 i7 q4 q7 r1 (wt g4) (wt g7) (Ne.symm p4) (Ne.symm p7) (λy hy=>?_) (λy hy=>?_)
  .have h':=h.ge hy;exact ap (k:=l) (c:=c) q4' azc h' (put_eq s0) ((oq a5).trans hR) (hA.below h'.bel) Aae (λv4 y' hy' hI=>⟨hy',S20 _ _ _ hI⟩)
  .exact mk7 (h.ge hy) ((oq a4).trans hX) (λg y' hy' hI=>⟨hy',S11 _ _ _ hI⟩)
 refine uT i0 i7 q0 q7 r0 (wt g0) (wt g7) (Ne.symm p0) (Ne.symm p7) (λy hy=>mk0 (hI0.ge hy) (λv0 y' hy' hI=>⟨hy',S10 _ _ hI⟩)) (λy hy=>mk7 (hI0.ge hy) hX (λg y' hy' hI=>⟨hy',?_⟩))
 refine iT i0 q0 r2 (wt g0) (Ne.symm p0) (λy2 hy2=>mk0 (hI.ge hy2) (λv0 y3 hy3 SV=>⟨hy3,?_⟩))
 rw [put_comm (Ne.symm a2),Array.setIfInBounds_comm _ _ (Ne.symm j2)]
 exact S11 _ _ _ SV
end
end Go.Proofs.YtfachhcijcjbpaaGreatDoor
