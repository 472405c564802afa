/- Parts. -/
import Derived.Test.YtbolgdleijjgfaaGreatDoorRs31
namespace Go.Proofs.YtbolgdleijjgfaaGreatDoor
open Go.Proofs.Tryz
set_option maxHeartbeats 8000000
open Go.RowKit
open Mth
theorem oV {P:Program} (w:World) (base:Nat) (t ty e:TypeId) (i:TypeInfo) (size:Nat) (ht:P.underlying t=some (.slice e)) (hi:P.info? e=some i)
 (v:Value) (n:Nat) (xs:List Value) (hown:w.ownsRow base e size v n xs) (a:Option Addr) (c:Nat):
 (Builtin.append_ #[t,t] ty #[v,.slice a 0 c]).run P w= .ok v w:=by
 rcases hown.2 with⟨rfl,rfl⟩|⟨g,cap,cur,rfl,_,_,hnc,_⟩
 .cases a<;>simp[Builtin.append_,run_underlying ht,sizeOf,typeInfo,hi,Builtin.lenOf,Builtin.firstCells,loadCells,loadCellsFrom]
 .cases a<;>simp[Builtin.append_,run_underlying ht,sizeOf,typeInfo,hi,Builtin.lenOf,Builtin.firstCells,loadCells,loadCellsFrom,hnc,storeCells]
theorem qJ {P:Program} {α:Type} {enc:α->List Value} {sz:Nat} (hs:∀x,(enc x).length=sz) (hz:0 < sz) (w:World) (base:Nat) (t ty e:TypeId) (i:TypeInfo) (z:Value) (bytes:Nat) (ht:P.underlying t=some (.slice e)) (hi:P.info? e=some i) (hz0:i.zero=some z)
 (hsize:i.size=sz) (hby:i.bytes=bytes) (hzs:z.cells.size=sz) (v:Value) (n:Nat) (xs:List Value) (hown:w.ownsRow base e sz v n xs)
 (a:Option Addr) (l:List α) (c:Nat) (ha:GR.At enc sz w a l) (h1:∀u∈GR.flat enc l,u.oneCell'=true) (h63:n+l.length<=maxLen) (hbytes:(n+l.length)*bytes<=140737488355328) (hbase:base<=w.heap.size):
 ∃v' w',(Builtin.append_ #[t,t] ty #[v,.slice a l.length c]).run P w= .ok v' w'/\w'.ownsRow base e sz v' (n+l.length) (xs++GR.flat enc l)/\w.grownBy w' v.ownBlock/\∀x,v'.ownBlock=some x->v.ownBlock=some x\/w.heap.size<=x:=by
 by_cases hl:l.length=0
 .have hn:l=[]:=aFg hl;subst hn;exact⟨v,w,oV w base t ty e i sz ht hi v n xs hown a c,by simpa [GR.flat] using hown,World.grownBy.refl _ _,λx hx=> .inl hx⟩
 .obtain⟨g,off,rfl,_⟩:=ha 0 Aaa;exact kK w base t ty e i z sz bytes ht hi hz0 hsize hby hzs hz v n xs hown ⟨g,off,none⟩ l.length c (GR.flat enc l) (GR.flat_length enc sz hs l) (F9 hs hz ha) h1 h63 hbytes hbase
theorem run_copy_row {P:Program} {α:Type} {enc:α->List Value} {sz:Nat} (hs:∀x,(enc x).length=sz) (hz:0 < sz) (w:World) (t e:TypeId) (i:TypeInfo) (z:Value) (bytes:Nat) (ht:P.underlying t=some (.slice e)) (hi:P.info? e=some i) (hz0:i.zero=some z)
 (hsize:i.size=sz) (hby:i.bytes=bytes) (hzs:z.cells.size=sz) (a:Option Addr) (l:List α) (c:Nat) (ha:GR.At enc sz w a l) (h1:∀u∈GR.flat enc l,u.oneCell'=true) (h63:l.length<=maxLen) (hbytes:l.length*bytes<=140737488355328):
 ∃a' c' w',(∀ty,(Builtin.append_ #[t,t] ty #[.slice (some ⟨w.heap.size,0,none⟩) 0 0,.slice a l.length c]).run P (w.alloc (.cells #[] e))= .ok (.slice a' l.length c') w')/\w'.ownsRow w.heap.size e sz (.slice a' l.length c') l.length (GR.flat enc l)/\aH w w'/\(∃g,a'=some ⟨g,0,none⟩)/\l.length<=c':=by
 open auW in exact ag6
theorem Jd {P:Program} {α:Type} {enc:α->List Value} {sz:Nat} (hs:∀x,(enc x).length=sz) (hz:0 < sz) (w:World) (t e:TypeId) (i:TypeInfo) (z:Value) (bytes:Nat) (ht:P.underlying t=some (.slice e)) (hi:P.info? e=some i) (hz0:i.zero=some z)
 (hsize:i.size=sz) (hby:i.bytes=bytes) (hzs:z.cells.size=sz) (a:Option Addr) (l:List α) (c:Nat) (ha:GR.At enc sz w a l) (h1:∀u∈GR.flat enc l,u.oneCell'=true) (h63:l.length<=maxLen) (hbytes:l.length*bytes<=140737488355328):
 ∃a' c' w',(∀ty,(Builtin.append_ #[t,t] ty #[.slice (some ⟨w.heap.size,0,none⟩) 0 0,.slice a l.length c]).run P (w.alloc (.cells #[] e))= .ok (.slice a' l.length c') w')/\w'.ownsRow w.heap.size e sz (.slice a' l.length c') l.length (GR.flat enc l)/\aH w w'/\(l=[]->c'=0):=by
 by_cases hl0:l.length=0
 .have hn:l=[]:=aFg hl0;subst hn;open auV in exact ag6
 .obtain⟨a',c',w',q1,q2,q3,_⟩:=run_copy_row hs hz w t e i z bytes ht hi hz0 hsize hby hzs a l c ha h1 h63 hbytes;exact⟨a',c',w',q1,q2,q3,λe=>absurd (by rw [e];rfl) hl0⟩
theorem fV {P:Program} {w:World} {ops:Array Oper} {rest:List Oper} {o:Oper} {a:Act} {Q:Exit->Act->World->Prop} (hgd:o.guard=none) (s x:Operand) (t:TypeId)
 (ho:o.op= .call {callee:= .builtin .append,args:=#[s,x],argTypes:=#[t,t]}) (vs vx:Value) (hs:a.eval s=vs) (hx:a.eval x=vx) (v':Value) (w':World) (hrun:(Builtin.append_ #[t,t] o.type #[vs,vx]).run P w= .ok v' w')
 (h:wpList P ops Q rest (a.put o.dst v') w'):wpList P ops Q (o::rest) a w:=by
 refine wpList_plain hgd λK hK=>?_
 unfold Oper.wp;simp[execOp,ho,resolve,invoke,builtin,hs,hx,hrun,Result.andThen];exact hK _ _ h
set_option maxRecDepth 100000
theorem acI (a:Option Addr) (cap:Nat) (l:List Pu) (w:World) (hl:l.length<=1048600) (ha:aG w a l):
 Calls prog 81 #[.slice a l.length cap] w λe w'=>∃a' c',e= .returned (.slice a' l.length c')/\w'.ownsRow w.heap.size 155 4 (.slice a' l.length c') l.length (GR.flat fu l)/\aH w w'/\(∃g,a'=some ⟨g,0,none⟩)/\l.length<=c':=by
 obtain⟨i0,hi,hz0,hz1,hz2⟩:=aFm FN;obtain⟨a',c',y,hrun,hrow,hby,hsm⟩:=run_copy_row (P:=prog) (enc:=fu) aP Aaa w 34 155 i0 (.agg (iR ByteArray.empty 0 0 0)) 40 underlying34 hi hz0 hz1 hz2 rfl a l cap ha (Fe l) Aaj Aaa;have HR:=Hq hrow;have HB:=Hq hby;have zN:=Hq hsm;clear ha hi hz0 hz1 hz2 hrow hby hsm;go_in
 go_wp2_with (at_builtin;refine fV rfl _ _ 34 rfl _ _ rfl rfl _ _ (hrun _) ?_)
 go_ret;exact⟨a',c',rfl,HR,HB,zN⟩
def Dv (s0 s1 s2 s3 s4 gs x:Nat):Nat:=if x < s0 then 0 else if x < s1 then 1 else if x < s2 then 2 else if x < s3 then 3 else if x < s4 then 6 else if x=gs then 4 else 5
structure SM (W4 wr:World) (ob k:Nat) (l:List Sn) (T2:List R3) (I:Nat->Nat) (a:Option Addr) (cs:Nat):Prop where
 len:T2.length=k
 own:wr.ownsRow W4.heap.size 130 3 (.slice a k cs) k (GR.flat eP T2)
 dn:∀i (hi:i < l.length),i < k->∃b c,T2[i]?=some ⟨l[i].f,l[i].l,.slice b l[i].ids.length c⟩/\WO wr b c (I i) l[i].ids/\∀x∈fp (I i) l[i].ids,W4.heap.size<=x/\x < wr.heap.size/\(Value.slice a k cs).ownBlock≠some x
 nd:∀i j (hi:i < l.length) (hj:j < l.length),i < j->j < k->0 < l[i].ids.length->0 < l[j].ids.length->I i≠I j
 kp:aA [ob] W4 wr
theorem SM.next {W4 wr x y:World} {ob k:Nat} {l:List Sn} {T2:List R3} {I:Nat->Nat} {a a2:Option Addr} {cs c2 gi cc:Nat} {b:Option Addr} (h:SM W4 wr ob k l T2 I a cs) (hk:k < l.length) (hob:ob < W4.heap.size) (hx:aH wr x)
 (hi:WO x b cc gi l[k].ids) (hlt:∀z∈fp gi l[k].ids,wr.heap.size<=z/\z < x.heap.size)
 (ho:y.ownsRow W4.heap.size 130 3 (.slice a2 (k+1) c2) (k+1) (GR.flat eP T2++eP ⟨l[k].f,l[k].l,.slice b l[k].ids.length cc⟩)) (hg:x.grownBy y (Value.slice a k cs).ownBlock) (hw:∀z,(Value.slice a2 (k+1) c2).ownBlock=some z->(Value.slice a k cs).ownBlock=some z\/x.heap.size<=z):
 SM W4 (y.setCell ⟨ob,6,none⟩ (.slice a2 (k+1) c2)) ob (k+1) l (T2++[⟨l[k].f,l[k].l,.slice b l[k].ids.length cc⟩]) (λi=>if i=k then gi else I i) a2 c2:=by
 have hs:y.heap.size=(y.setCell ⟨ob,6,none⟩ (.slice a2 (k+1) c2)).heap.size:=Aaq
 have hkp:aA [ob] y (y.setCell ⟨ob,6,none⟩ (.slice a2 (k+1) c2)):=aA.set _;have hx1:=hx.size;have hx2:=hg.size;have hx3:=h.kp.size;have hoo:=h.own.lt;have hxy:aA (Value.slice a k cs).ownBlock.toList x y:=⟨hg.os,hg.tape,hg.output,hg.size,λz hz hne=>hg.block z hz (λe=>hne (by rw [<-e];simp))⟩;refine⟨by simp[h.len],?_,λi hi' hik=>?_,λi j hi' hj hij hjk h1 h2=>?_,?_⟩
 .rw [GR.flat_append,GR.flat_one];exact dD ho hkp (λz hz=>by have:z=ob:=(by simpa using hz);omega)
 .by_cases e:i=k
  .subst e;refine⟨b,cc,by rw [List.getElem?_append_right (by rw [h.len];exact aEM _),h.len];simp,?_,?_⟩
   .rw [aE7 rfl];refine(hi.keeps hxy (λz hz hm=>?_)).keeps hkp (λz hz hm=>?_)
    .have h1:(Value.slice a i cs).ownBlock=some z:=Aay
     have:=(hoo z h1).2;have:=(hlt z hz).1;omega
    .have:=(hlt z hz).1;have:z=ob:=Aay;omega
   .rw [aE7 rfl];refine λz hz=>⟨by have:=(hlt z hz).1;omega,by rw [<-hs];have:=(hlt z hz).2;omega,λe2=>?_⟩
    rcases hw z e2 with h1|h1
    .have:=(hoo z h1).2;have:=(hlt z hz).1;omega
    .have:=(hlt z hz).2;omega
  .obtain⟨b',c',e1,e2,e3⟩:=h.dn i hi' Aaa;refine⟨b',c',by rw [aF8 (by rw [h.len];omega)];exact e1,?_,?_⟩
   .rw [aEX e];refine((e2.below hx).keeps hxy (λz hz hm=>?_)).keeps hkp (λz hz hm=>?_)
    .exact(e3 z hz).2.2 Aay
    .have:=(e3 z hz).1;have:z=ob:=Aay;omega
   .rw [aEX e];refine λz hz=>⟨(e3 z hz).1,by rw [<-hs];have:=(e3 z hz).2.1;omega,λe4=>?_⟩
    rcases hw z e4 with h1|h1
    .exact(e3 z hz).2.2 h1
    .have:=(e3 z hz).2.1;omega
 .by_cases ej:j=k
  .subst ej;rw [aEX Aaa,aE7 rfl];obtain⟨_,_,_,_,e3⟩:=h.dn i hi' Aaa;have q1:=(e3 (I i) (dB h1)).2.1;have q2:=(hlt gi (dB h2)).1;omega
  .exact ai3
 .refine⟨hg.os.trans (hx.os.trans h.kp.os),hg.tape.trans (hx.tape.trans h.kp.tape),hg.output.trans (hx.output.trans h.kp.output),by rw [<-hs];omega,λz hz hm=>?_⟩;have hne:z≠ob:=Aay
  rw [aE9 _ _ _ _ hne,hg.block z Aaa (λe=>by have:=(hoo z e.symm).1;omega),hx.block z Aaa];exact h.kp.block z hz hm
theorem SM.done {W4 wr:World} {ob:Nat} {l:List Sn} {T2:List R3} {I:Nat->Nat} {a:Option Addr} {cs:Nat} (h:SM W4 wr ob l.length l T2 I a cs):∃g,pO wr a g I l/\(∀x∈fp g l,W4.heap.size<=x)/\(∀x∈mX I l,W4.heap.size<=x/\x < wr.heap.size/\x∉fp g l)/\(mX I l).Nodup:=by
 open atE in exact agV
theorem mG (n:Nd) (A:bq) (w:World) (hz:eF n 1048576) (ha:bY w A n):
 Calls prog 37 #[gM n A] w λe w'=>∃A' G' c',e= .returned (gM n A')/\NQ w' w.heap.size n A' G' c'/\aH w w'/\(∃g,A'.p=some ⟨g,0,none⟩)/\n.pu.length<=A'.cp/\(∃g,A'.r=some ⟨g,0,none⟩)/\n.reqs.length<=A'.cr:=by
 have HZ:=Hq hz;have HA:=Hq ha;have hlk:=hz.k;have hlp:=hz.p;have hlo:=hz.o;have hls:=hz.s;have hlr:=hz.r;clear hz ha;go_in
 go_upto_region 2 with fail;refine wp_at (λW0 hW=>?_);obtain⟨e1,e2,e3,e4⟩:=gu w (.cells (dH n A) 39) (.cells kR 39) (.cells (dH n A) 39);rw [<-hW] at e1 e2 e3 e4;have vY:=Hq e1;have OC:=Hq e2;have EH:=Hq e3;have Oi:=Hq e4;have hsz0:=ay e3;clear hW e1 e2 e3 e4;obtain⟨c0,c1,c2,c3,c4,c5,c6,c7,c8⟩:=nine vY;have akV:=ay vY;have aCF:=ay EH;obtain⟨i0,hi,hz0,hz1,hz2⟩:=aFm xG;obtain⟨ak,ck,aEG,hrun,hrow,hby,_⟩:=run_copy_row (P:=prog) (enc:=bf) aW Aaa W0 22 3 i0 (.int .i64 0) 8 underlying22 hi hz0 hz1 hz2 rfl A.k n.kids A.ck (GR.At.below HA.k Oi) (by intro u hu;rw [Fj] at hu;obtain⟨z,_,rfl⟩:=aGk.1 hu;rfl) Aaj Aaa;clear hi hz0 hz1 hz2;have VE:=Hq hby;obtain⟨d0,d1,d2,d3,d4,d5,d6,d7,d8⟩:=nine (aj EH hby);have f1:=aC (aj EH hby) 2;have T9:=ay (aj EH hby);clear hby;go_upto_region 3 with(at_builtin;refine fV rfl _ _ 22 rfl _ _ rfl rfl _ _ (hrun _) ?_)
 refine wp_at (λW1 hW=>?_);have hO1:=aj EH VE;obtain⟨EI,Oj,CZ,Vx⟩:=cpy (cs':=dH n ⟨ak,A.p,A.o,A.s,A.r,ck,A.cp,A.co,A.cs,A.cr⟩) hW EH Oi VE Aaa rfl;have vZ:=Hq (CZ.obj vY Aah);have OD:=Hq (CZ.obj OC Aac);clear hW hO1 vY OC EH;clear c0 c1 c2 c3 c4 c5 c6 c7 c8 d0 d1 d2 d3 d4 d5 d6 d7 d8 f1 T9 hrun;have HKW:Hid (W1.ownsRow W0.heap.size 3 1 (.slice ak n.kids.length ck) n.kids.length (GR.flat bf n.kids)):=dD hrow Vx (λx hx=>by have:x=w.heap.size+2:=Aag;omega);clear hrow;obtain⟨c0,c1,c2,c3,c4,c5,c6,c7,c8⟩:=nine vZ;have akW:=ay vZ;have aCG:=ay EI;go_wp2_with fail;refine(acI A.p A.cp n.pu W1 Aaa (GR.At.below HA.p Oj)).mono ?_;rintro e aEH ⟨ap,cp,rfl,hrow,hby,hsm⟩;have HPS:=Hq hsm;clear hsm;have VF:=Hq hby;obtain⟨d0,d1,d2,d3,d4,d5,d6,d7,d8⟩:=nine (aj EI hby);have f1:=aC (aj EI hby) 4;have T9:=ay (aj EI hby);clear hby c0 c1 c2 c3 c4 c5 c6 c7 c8;go_upto_region 4 with fail;refine wp_at (λW2 hW=>?_);have hO1:=aj EI VF;obtain⟨EJ,Ol,zJ,Vy⟩:=cpy (cs':=dH n ⟨ak,ap,A.o,A.s,A.r,ck,cp,A.co,A.cs,A.cr⟩) hW EI Oj VF Aaa rfl;have wm:=Hq (zJ.obj vZ Aah);have OE:=Hq (zJ.obj OD Aac);clear hW hO1 vZ OD EI;clear d0 d1 d2 d3 d4 d5 d6 d7 d8 f1 T9;have H6:Hid (W2.ownsRow W1.heap.size 155 4 (.slice ap n.pu.length cp) n.pu.length (GR.flat fu n.pu)):=dD hrow Vy (λx hx=>by have:x=w.heap.size+2:=Aag;omega);clear hrow;obtain⟨c0,c1,c2,c3,c4,c5,c6,c7,c8⟩:=nine wm;have akX:=ay wm;have aCH:=ay EJ;obtain⟨i0,hi,hz0,hz1,hz2⟩:=aFm FT;obtain⟨ao,co,aEI,hrun,hrow,hby,_⟩:=run_copy_row (P:=prog) (enc:=aM) aR Aaa W2 35 145 i0 (.agg (gI 0 0 ByteArray.empty 0)) 40 underlying35 hi hz0 hz1 hz2 rfl A.o n.out A.co (GR.At.below HA.o Ol) (Db _) Aaj Aaa;clear hi hz0 hz1 hz2;have VI:=Hq hby;obtain⟨d0,d1,d2,d3,d4,d5,d6,d7,d8⟩:=nine (aj EJ hby);have f1:=aC (aj EJ hby) 5;have T9:=ay (aj EJ hby);clear hby;go_upto_region 5 with(at_builtin;refine fV rfl _ _ 35 rfl _ _ rfl rfl _ _ (hrun _) ?_)
 refine wp_at (λW3 hW=>?_);have hO1:=aj EJ VI;obtain⟨EL,Om,zK,aat⟩:=cpy (cs':=dH n ⟨ak,ap,ao,A.s,A.r,ck,cp,co,A.cs,A.cr⟩) hW EJ Ol VI Aaa rfl;have yx:=Hq (zK.obj wm Aah);have OG:=Hq (zK.obj OE Aac);clear hW hO1 wm OE EJ;clear c0 c1 c2 c3 c4 c5 c6 c7 c8 d0 d1 d2 d3 d4 d5 d6 d7 d8 f1 T9 hrun;have HOW:Hid (W3.ownsRow W2.heap.size 145 4 (.slice ao n.out.length co) n.out.length (GR.flat aM n.out)):=dD hrow aat (λx hx=>by have:x=w.heap.size+2:=Aag;omega);clear hrow;obtain⟨c0,c1,c2,c3,c4,c5,c6,c7,c8⟩:=nine yx;have akY:=ay yx;have aCI:=ay EL;obtain⟨i0,hi,hz0,hz1,hz2⟩:=aFm Aq;obtain⟨ar,cr,aEJ,hrun,hrow,hby,hsr⟩:=run_copy_row (P:=prog) (enc:=aL) aV Aaa W3 37 148 i0 (.agg (gT 0 ByteArray.empty 0 0)) 40 underlying37 hi hz0 hz1 hz2 rfl A.r n.reqs A.cr (GR.At.below HA.r Om) (nC _) Aaj Aaa;clear hi hz0 hz1 hz2;have HRS:=Hq hsr;clear hsr;have agu:=Hq hby;obtain⟨d0,d1,d2,d3,d4,d5,d6,d7,d8⟩:=nine (aj EL hby);have f1:=aC (aj EL hby) 8;have T9:=ay (aj EL hby);clear hby;go_upto_region 6 with(at_builtin;refine fV rfl _ _ 37 rfl _ _ rfl rfl _ _ (hrun _) ?_)
 refine wp_at (λW4 hW=>?_);have hO1:=aj EL agu;obtain⟨Vt,JG,C9,amF⟩:=cpy (cs':=dH n ⟨ak,ap,ao,A.s,ar,ck,cp,co,A.cs,cr⟩) hW EL Om agu Aaa rfl;have yA:=Hq (C9.obj yx Aah);have Vv:=Hq (C9.obj OG Aac);clear hW hO1 yx OG EL;clear c0 c1 c2 c3 c4 c5 c6 c7 c8 d0 d1 d2 d3 d4 d5 d6 d7 d8 f1 T9 hrun;have HQW:Hid (W4.ownsRow W3.heap.size 148 4 (.slice ar n.reqs.length cr) n.reqs.length (GR.flat aL n.reqs)):=dD hrow amF (λx hx=>by have:x=w.heap.size+2:=Aag;omega);clear hrow;obtain⟨c0,c1,c2,c3,c4,c5,c6,c7,c8⟩:=nine yA;have akZ:=ay yA;have ab5:=ay Vt;obtain⟨d0,d1,d2,d3,d4,d5,d6,d7,d8⟩:=nine Vt;have f6:=aC Vt 6;go_upto_region 7 with fail;refine wp_at (λZ hZ=>?_);have afl:(W4.setCell ⟨w.heap.size+2,6,none⟩ (.slice (some ⟨W4.heap.size,0,none⟩) 0 0)).heap.size=W4.heap.size:=Aaq
 have hZo:Z.ownsRow W4.heap.size 130 3 (.slice (some ⟨W4.heap.size,0,none⟩) 0 0) 0 []:=by
  have hlit:=aFw (base:=W4.heap.size) (e:=130) (size:=3) (W4.setCell ⟨w.heap.size+2,6,none⟩ (.slice (some ⟨W4.heap.size,0,none⟩) 0 0)) #[] 0 (by rw [afl];exact aEM _) Aaj Aac;rw [afl] at hlit;rw [hZ];exact hlit
 have hZk:aA [w.heap.size+2] W4 Z:=by rw [hZ];exact(aA.set _).trans (aA.of_below (au _ _))
 have hZb:Z.heap[w.heap.size+2]?=some (.cells (vW n.id n.par ak n.kids.length ck n.next ap n.pu.length cp ao n.out.length co (some ⟨W4.heap.size,0,none⟩) 0 0 n.old ar n.reqs.length cr) 39 (0,0)):=by
  rw [hZ];exact(aEZ _ _ _ (by rw [afl];exact ab5)).trans (Dl Vt)
 have HZF:=Hq (And.intro hZo (And.intro hZk hZb));clear hZ afl hZo hZk hZb c0 c1 c2 c3 c4 c5 c6 c7 c8 d0 d1 d2 d3 d4 d5 d6 d7 d8 f6;go_wp2_with fail;go_loopw [4] (λi wr=>∃(k:Nat) (T2:List R3) (I:Nat->Nat) (a:Option Addr) (cs:Nat),k<=n.seen.length/\i= .int .i64 k/\SM W4 wr (w.heap.size+2) k n.seen T2 I a cs/\wr.heap[w.heap.size+2]?=some (.cells (vW n.id n.par ak n.kids.length ck n.next ap n.pu.length cp ao n.out.length co a k cs n.old ar n.reqs.length cr) 39 (0,0))) (λi _=>n.seen.length - (intOf i).toNat)
 case atStart=>
  exact⟨0,[],λ_=>0,some ⟨W4.heap.size,0,none⟩,0,aE1 _,rfl,⟨rfl,HZF.1,λi hi h=>Aaa,λi j _ _ _ h=>Aaa,HZF.2.1⟩,HZF.2.2⟩
 case' round=>
  obtain⟨k,T2,I,a,cs,hk,rfl,hsm,ayJ⟩:=hrel
  have zN:=Hq hsm
  have HOB:=Hq ayJ
  have R8:=Hq (hsm.kp.obj yA Aac)
  have HRr:=Hq (hsm.kp.obj Vv Aac)
  have Z5:=Hq (JG.trans (hsm.kp.below (λx hx=>by have:x=w.heap.size+2:=Aag;omega) JG.size))
  have aDC:=hsm.kp.size
  clear hsm ayJ
  obtain⟨c0,c1,c2,c3,c4,c5,c6,c7,c8⟩:=nine R8
  have hnr:=ay R8
  by_cases hlt:k < n.seen.length
  case' pos=>
   have PE:(k:Int) < (n.seen.length:Int):=Aaa
   obtain⟨g,off,b,cc,e0,hg,q0,q1,q2,hIb⟩:=gZ.below HA.s Z5 k hlt
   have HSN:=Hq (λx y a2 c2 gi b cc hx hi hlt2 ho hg hw=>SM.next (x:=x) (y:=y) (a2:=a2) (c2:=c2) (gi:=gi) (b:=b) (cc:=cc) zN hlt ab5 hx hi hlt2 ho hg hw)
   have hil:=HZ.sk _ (aE2 hlt)
   have HIB:=Hq hIb
   rw [e0] at c6
   clear hIb e0
   generalize n.seen[k]=s0 at *
   obtain⟨sf,sl,ids⟩:=s0
   dsimp only at q0 q1 q2 HSN HIB hil
   go_upto_region 11 with fail
   refine wp_at (λX1 hX=>?_)
   have e1:X1.heap[wr.heap.size]?=some (.cells #[.int .i64 sf,.int .i64 sl,.slice b ids.length cc] 130 (0,0)):=by rw [hX];exact aEK _ _
   have e2:aH wr X1:=by rw [hX];exact au _ _
   have E1:=Hq e1
   have E2:=Hq e2
   have afn:=ay e1
   obtain⟨s0,s1,s2⟩:=three e1
   clear hX e1 e2 q0 q1 q2 c0 c1 c2 c3 c4 c5 c6 c7 c8
   obtain⟨i0,hi,hz0,hz1,hz2⟩:=aFm xG
   obtain⟨b2,Pd,y2,hrun,hrow,hby,hq0⟩:=Jd (P:=prog) (enc:=bf) aW Aaa X1 22 3 i0 (.int .i64 0) 8 underlying22 hi hz0 hz1 hz2 rfl b ids cc (GR.At.below HIB E2) (by intro u hu;rw [Fj] at hu;obtain⟨z,_,rfl⟩:=aGk.1 hu;rfl) Aaj Aaa
   have hE3:=aj E1 hby
   have f2:=aC hE3 2
   have hl3:=ay hE3
   obtain⟨t0,t1,t2⟩:=three hE3
   have HE3:=Hq hE3
   have JF:=Hq hby
   clear hi hz0 hz1 hz2 hby hE3
   go_upto_region 12 with(at_builtin;refine fV rfl _ _ 22 rfl _ _ rfl rfl _ _ (hrun _) ?_)
   refine wp_at (λX2 hX=>?_)
   have e3:X2.heap[wr.heap.size]?=some (.cells #[.int .i64 sf,.int .i64 sl,.slice b2 ids.length Pd] 130 (0,0)):=by rw [hX];exact aN HE3 2 (.slice b2 ids.length Pd)
   have e4:aH wr X2:=by
    rw [hX];exact(E2.trans (JF.mono E2.size)).setCell (p:=⟨wr.heap.size,2,none⟩) (aEM _) _
   have hv2:aA [wr.heap.size] y2 X2:=by rw [hX];exact aA.set _
   obtain⟨_,_,g2,e5,hW2,hg2,_⟩:=GR.W.of_own (enc:=bf) aW hrow
   cases e5
   have hW3:=(WO.of_own hW2 hrow hq0).keeps hv2 (λz hz=>by have:=(hg2 z hz).1;simp;omega)
   have hg3:∀z∈fp g2 ids,wr.heap.size<=z/\z < X2.heap.size:=λz hz=>⟨by have:=(hg2 z hz).1;omega,aEU (hg2 z hz).2 hv2.size⟩
   clear hX hq0 hrow hW2 hg2 hv2 s0 s1 s2 t0 t1 t2 f2 hl3 hrun
   have EF:=Hq (aj HOB e4)
   obtain⟨c0,c1,c2,c3,c4,c5,c6,c7,c8⟩:=nine EF
   have hl4:=ay EF
   obtain⟨s0,s1,s2⟩:=three e3
   have hl5:=ay e3
   obtain⟨i0,hi,hz0,hz1,hz2⟩:=aFm FQ
   have ayI:=zN.len
   have hown3:=GR.own_below zN.own (e4.trans ((au X2 (.cells #[.int .i64 sf,.int .i64 sl,.slice b2 ids.length Pd] 130)).mono e4.size))
   have hblk:GR.Blk eP 130 (X2.alloc (.cells #[.int .i64 sf,.int .i64 sl,.slice b2 ids.length Pd] 130)) X2.heap.size [⟨sf,sl,.slice b2 ids.length Pd⟩]:=aEK X2 _
   obtain⟨v6,y6,ayO,hown6,rD,hw6⟩:=qJ (P:=prog) (enc:=eP) bg Aaa (X2.alloc (.cells #[.int .i64 sf,.int .i64 sl,.slice b2 ids.length Pd] 130)) W4.heap.size 36 36 130 i0 (.agg #[.int .i64 0,.int .i64 0,.slice none 0 0]) 40 underlying36 hi hz0 hz1 hz2 rfl (.slice a k cs) k (GR.flat eP T2) hown3 (some ⟨X2.heap.size,0,none⟩) [⟨sf,sl,.slice b2 ids.length Pd⟩] 1 (hblk.at bg) (by intro u hu;rw [GR.flat_one] at hu;simp only[eP,aE8,aFR,or_false] at hu;rcases hu with rfl|rfl|rfl<;>rfl) (by unfold maxLen;simp;omega) Aah (by have:=e4.size;simp;omega)
   rw [GR.flat_one] at hown6
   have hform:∃a6 c6,v6= .slice a6 (k+1) c6:=by
    have h6:=hown6;rw [<-GR.flat_one (enc:=eP),<-GR.flat_append] at h6;have hl6:(T2++[(⟨sf,sl,.slice b2 ids.length Pd⟩:R3)]).length=k+1:=by simp[ayI]
    have h7:y6.ownsRow W4.heap.size 130 3 v6 (T2++[(⟨sf,sl,.slice b2 ids.length Pd⟩:R3)]).length (GR.flat eP (T2++[⟨sf,sl,.slice b2 ids.length Pd⟩])):=by rw [hl6];exact h6
    obtain⟨a6,c6',e6,_⟩:=GR.own_at (enc:=eP) (sz:=3) bg h7;rw [hl6] at e6;exact⟨a6,c6',e6⟩
   obtain⟨a6,cc6,rfl⟩:=hform
   have ab4:y6.heap[w.heap.size+2]?=some (.cells (vW n.id n.par ak n.kids.length ck n.next ap n.pu.length cp ao n.out.length co a k cs n.old ar n.reqs.length cr) 39 (0,0)):=by
    rw [rD.block _ Aah (λe=>by have:=((ah zN).own.lt _ e.symm).1;omega)];exact aj EF (au X2 _)
   have aAa:=Hq (HSN (X2.alloc (.cells #[.int .i64 sf,.int .i64 sl,.slice b2 ids.length Pd] 130)) y6 a6 cc6 g2 b2 Pd (e4.trans ((au X2 _).mono e4.size)) (hW3.below (au X2 _)) (λz hz=>⟨(hg3 z hz).1,by have:=(hg3 z hz).2;simp;omega⟩) hown6 rD hw6)
   have aAc:=Hq ab4
   obtain⟨d0,d1,d2,d3,d4,d5,d6,d7,d8⟩:=nine ab4
   have f6:=aC ab4 6
   have hl6:=ay ab4
   clear hi hz0 hz1 hz2 hown3 hblk hown6 rD hw6 ab4 HSN hW3 hg3 e3 e4
   go_wp2_with (at_builtin;refine fV rfl _ _ 36 rfl _ _ rfl rfl _ _ ayO ?_)
   go_roundw
   case rel=>
    exact⟨k+1,_,_,a6,cc6,Aaa,Aaf,aAa,Dl aAc⟩
   case measure=>simp[intOf];omega
  have hke:k=n.seen.length:=Aaa
  subst hke
  have hnlt:decide ((n.seen.length:Int) < (n.seen.length:Int))=false:=Aac
  go_upto_region 13 with fail
  refine wp_at (λW5 hWW=>?_)
  subst hWW
  obtain⟨gs,hsn⟩:=zN.done
  have HSN:=Hq hsn
  have EA:=Hq zN.kp
  clear hsn zN c0 c1 c2 c3 c4 c5 c6 c7 c8
 obtain⟨c0,c1,c2,c3,c4,c5,c6,c7,c8⟩:=nine HOB;obtain⟨d0,d1,d2,d3,d4,d5,d6,d7,d8⟩:=nine HRr;obtain⟨f0,f1,f2,f3,f4,f5,f6,f7,f8⟩:=oJ HRr;have aCB:=ay HOB;have aCL:=ay HRr;go_wp2_with fail;refine pU results37 rfl rfl HRr (λW' e4 fq hso hsz=>?_);have HBE:Hid (aH w W'):=Z5.trans (fq.below (λx hx=>Aak) Z5.size);clear c0 c1 c2 c3 c4 c5 c6 c7 c8 d0 d1 d2 d3 d4 d5 d6 d7 d8 f0 f1 f2 f3 f4 f5 f6 f7 f8;have k0:=CZ.size;have k1:=zJ.size;have k2:=zK.size;have k3:=C9.size;have k4:=EA.size;have b4:∀x,w.heap.size+2 < x->x < W4.heap.size->W'.heap[x]?=W4.heap[x]?:=λx h1 h2=>(hso x Aaa).trans (EA.block x h2 Aah)
 have b3:∀x,w.heap.size+2 < x->x < W3.heap.size->W'.heap[x]?=W3.heap[x]?:=λx h1 h2=>(b4 x h1 Aaa).trans (C9.block x h2 Aah)
 have b2:∀x,w.heap.size+2 < x->x < W2.heap.size->W'.heap[x]?=W2.heap[x]?:=λx h1 h2=>(b3 x h1 Aaa).trans (zK.block x h2 Aah)
 have b1:∀x,w.heap.size+2 < x->x < W1.heap.size->W'.heap[x]?=W1.heap[x]?:=λx h1 h2=>(b2 x h1 Aaa).trans (zJ.block x h2 Aah)
 have oK:=HKW.lt;have oP:=H6.lt;have oO:=HOW.lt;have oQ:=HQW.lt;obtain⟨sw,sg,si,snd⟩:=ah HSN;have hkW:=jA HKW (w':=W') (λx hx=>b1 x (by have:=oK x hx;omega) (oK x hx).2);have hpW:=jA H6 (w':=W') (λx hx=>b2 x (by have:=oP x hx;omega) (oP x hx).2);obtain⟨_,_,gk,ek,hWk,_,hok⟩:=GR.W.of_own (enc:=bf) aW hkW;cases ek
 obtain⟨_,_,gp,ep,hWp,_,hop⟩:=GR.W.of_own (enc:=fu) aP hpW;cases ep
 have hSQ:=pO.blocks (w':=W') sw Aaa (λx hx=>hso x (by have:=sg x hx;omega)) (λx hx=>hso x (by have:=si x hx;omega))
 have mP:Hid (NQ W' w.heap.size n ⟨ak,ap,ao,a,ar,ck,cp,co,cs,cr⟩ ⟨gk,gp,0,gs,0,I⟩ (Dv W0.heap.size W1.heap.size W2.heap.size W3.heap.size W4.heap.size gs)):=by
  refine⟨⟨hWk,hWp,lu (jA HOW (λx hx=>b3 x (by have:=oO x hx;omega) (oO x hx).2)) Aaa,hSQ.w,lu (jA HQW (λx hx=>b4 x (by have:=oQ x hx;omega) (oQ x hx).2)) Aaa,λx hx=>?_,λx hx=>?_,λx hx=>?_,λx hx=>?_,λx hx=>?_,λx hx=>?_,λx hx=>?_,snd⟩,hSQ⟩
  .unfold Dv;rw [aE7 Aaa]
  .have:=oK x (hok x hx);unfold Dv;rw [aEX Aaa,aE7 Aaa]
  .have:=oP x (hop x hx);unfold Dv;rw [aEX Aaa,aEX Aaa,aE7 Aaa]
  .have:=oO x hx;unfold Dv;rw [aEX Aaa,aEX Aaa,aEX Aaa,aE7 Aaa]
  .have:=sg x hx;have e:=(cu hx).1;unfold Dv;rw [aEX Aaa,aEX Aaa,aEX Aaa,aEX Aaa,aEX Aaa,aE7 e]
  .have h1:=si x hx;have e:x≠gs:=λe=>h1.2.2 (by rw [e];exact dB (by obtain⟨i,hi,_⟩:=rY hx;omega));unfold Dv;rw [aEX Aaa,aEX Aaa,aEX Aaa,aEX Aaa,aEX Aaa,aEX e]
  .have:=oQ x hx;unfold Dv;rw [aEX Aaa,aEX Aaa,aEX Aaa,aEX Aaa,aE7 Aaa]
 clear e4 fq hSQ hso b4 b3 b2 b1 oK oP oO oQ sw sg si snd hkW hpW hWk hWp hok hop;exact⟨⟨ak,ap,ao,a,ar,ck,cp,co,cs,cr⟩,_,_,rfl,mP,HBE,HPS.1,HPS.2,HRS⟩
theorem put_comm {a:Act} {d d':Nat} {v v':Value} (h:d≠d'):(a.put (some d) v).put (some d') v'=(a.put (some d') v').put (some d) v:=by
 unfold Act.put;simp only[Array.setIfInBounds_comm _ _ h]
theorem oU {a:Act} {d t:Nat} {v:Value} (h:d≠t):(a.put (some d) v).eval (.tmp t)=a.eval (.tmp t):=by
 simp[Act.put,Act.eval,Array.getElem?_setIfInBounds_ne h]
theorem put_eq {a:Act} {d:Nat} {v:Value} (h:d < a.tmps.size):(a.put (some d) v).eval (.tmp d)=v:=by
 simp[Act.put,Act.eval,h]
section
variable {α:Type} {enc:α->List Value} {te:TypeId} {sz:Nat}
structure Ins (enc:α->List Value) (te:TypeId) (sz:Nat) (w:World) (v:Value) (l:List α) (r:Option Nat) (e:α) (x:World):Prop where
 bel:aH w x
 own:x.ownsRow w.heap.size te sz v l.length (GR.flat enc l)
 one:∀g,r=some g->x.heap[g]?=some (.cells (enc e).toArray te (0,0))/\∀q,v.ownBlock=some q->q≠g
variable {w x y:World} {v:Value} {l:List α} {r:Option Nat} {e:α}
theorem Ins.ge (h:Ins enc te sz w v l r e x) (hy:Ge x y):Ins enc te sz w v l r e y:=
 ⟨h.bel.trans (hy.mono h.bel.size),GR.own_below h.own hy,λg hg=>⟨aj (h.one g hg).1 hy,(h.one g hg).2⟩⟩
theorem Ins.lit0 (h:Ins enc te sz w v l r e x):Ins enc te sz w (.slice (some ⟨x.heap.size,0,none⟩) 0 0) [] r e (x.alloc (.cells #[] te)):=
 ⟨(h.ge (au x _)).bel,aFw x #[] 0 h.bel.size Aaj Aac,λg hg=>⟨((h.ge (au x _)).one g hg).1,λq hq=>by
   have:=ay (h.one g hg).1
   simp[Value.ownBlock] at hq
   omega⟩⟩
theorem Ins.lit1 (h:Ins enc te sz w v l r e x):Ins enc te sz w v l (some x.heap.size) e (x.alloc (.cells (enc e).toArray te)):=
 ⟨(h.ge (au x _)).bel,(h.ge (au x _)).own,λg hg=>by
   cases hg
   exact⟨aEK x _,λq hq=>by have:=(h.own.lt q hq).2;omega⟩⟩
theorem Ins.app {v':Value} {k:List α} (h:Ins enc te sz w v l r e x) (hy:y.ownsRow w.heap.size te sz v' (l.length+k.length) (GR.flat enc l++GR.flat enc k)) (hg:x.grownBy y v.ownBlock) (hw:∀q,v'.ownBlock=some q->v.ownBlock=some q\/x.heap.size<=q):
 Below w.heap.size x y/\Ins enc te sz w v' (l++k) r e y:=
 ⟨(aEY _ _).grown hg h.bel.size (λq hq=>(h.own.lt q hq).1),h.bel.grown hg h.bel.size (λq hq=>(h.own.lt q hq).1),by rw [aER,GR.flat_append];exact hy,λg hr=>⟨by
   rw [hg.block _ (ay (h.one g hr).1) (λhm=>(h.one g hr).2 _ hm.symm rfl)];exact(h.one g hr).1,λq hq=>(hw q hq).elim ((h.one g hr).2 q) (λh'=>by have:=ay (h.one g hr).1;omega)⟩⟩
abbrev aaw (ops:Array Oper) (i:Nat) (o:Oper) (p:Op) (d:Nat):Prop:=ops[i]?=some o/\o.op=p/\o.dst=some d/\o.guard=none
abbrev apO (t:TypeId) (a b:Nat):Op:= .call {callee:= .builtin .append,args:=#[.tmp a,.tmp b],argTypes:=#[t,t]}
abbrev sx (L:Array Bool) (i:Nat):Array Bool:=L.setIfInBounds i true
variable {P:Program} {ops:Array Oper} {Q:Exit->Act->World->Prop} {E:Nat} {md:Region.Mode}
theorem Hr {i:TypeInfo} {ts:TypeId} {z:Value} {bytes:Nat} (i0 i4 i7 i8 i12 d0 d4 d7 d8 d12 X R S:Nat) {f:Nat} {L:Array Bool} {a:Act} {A B:Option Addr} {l k:List α} {c c' m n:Nat} {ve:Value}
 (hs:∀x,(enc x).length=sz) (hz:0 < sz) (h1:∀x,∀u∈enc x,u.oneCell'=true) (ht:P.underlying ts=some (.slice te)) (hi:P.info? te=some i) (hz0:i.zero=some z) (hsz:i.size=sz) (hby:i.bytes=bytes) (hzs:z.cells.size=sz)
 (hA:GR.At enc sz w A l) (hB:GR.At enc sz w B k) (hlm:l.length=m) (hkn:k.length=n) (hlen:m+1+n<=1048576) (aB8:bytes<=1048576) (hsz2:sz<=1048576)
 (hR:a.eval (.tmp R)= .slice A m c) (hS:a.eval (.tmp S)= .slice B n c') (hX:a.eval (.tmp X)=ve)
 (hf:Instr.fill (λq=>some (q*sz,sz)) ((Array.range (1*sz)).map (z.cells[·% z.cells.size]!)) [(0,ve)]=some (enc e).toArray)
 {o0 o4 o7 o8 o12:Oper}
 (h0:aaw ops i0 o0 (.buildSlice ts 0 #[]) d0)
 (h4:aaw ops i4 o4 (apO ts d0 R) d4)
 (h7:aaw ops i7 o7 (.buildSlice ts 1 #[(0,.tmp X)]) d7)
 (h8:aaw ops i8 o8 (apO ts d4 d7) d8)
 (h12:aaw ops i12 o12 (apO ts d8 S) d12)
 (hd:decide (d0 < a.tmps.size/\d4 < a.tmps.size/\d7 < a.tmps.size/\d8 < a.tmps.size/\[d0,d4,d7,d8,X,R,S].Nodup/\[i0,i4,i7,i8,i12].Nodup/\E∉[i0,i4,i7,i8,i12])=true)
 (r0:Region.ready md ops L=[i0,i7]:=by kernel_rfl) (r1:Region.ready md ops (sx L i0)=[i4,i7]:=by kernel_rfl) (r2:Region.ready md ops (sx L i7)=[i0]:=by kernel_rfl)
 (r3:Region.ready md ops (sx (sx L i0) i4)=[i7]:=by kernel_rfl) (r4:Region.ready md ops (sx (sx L i0) i7)=[i4]:=by kernel_rfl)
 (r5:Region.ready md ops (sx (sx (sx L i0) i4) i7)=[i8]:=by kernel_rfl) (r6:Region.ready md ops (sx (sx (sx (sx L i0) i4) i7) i8)=[i12]:=by kernel_rfl)
 (H:∀v0 v4 v7 v8 v12 y,aH w y->y.ownsRow w.heap.size te sz v12 (l++[e]++k).length (GR.flat enc (l++[e]++k))->lJ P md ops Q E w.heap.size f ((sx (sx (sx (sx L i0) i4) i7) i8).setIfInBounds i12 true) (((((a.put (some d0) v0).put (some d4) v4).put (some d7) v7).put (some d8) v8).put (some d12) v12) y):
 lJ P md ops Q E w.heap.size (f+5) L a w:=by
 subst hsz hby hlm hkn
 have hd':=aE5 hd
 simp only[List.nodup_cons,aE8,aFR,not_or,or_false,not_false_eq_true,List.nodup_nil,and_true] at hd'
 obtain⟨s0,s4,s7,s8,⟨⟨a1,a2,a3,a4,a5,a6⟩,⟨b1,b2,b3,b4,b5⟩,⟨c1,c2,c3,c4⟩,⟨e1,e2,e3⟩,⟨f1,f2⟩,g1⟩,⟨⟨j1,j2,j3,j4⟩,⟨k1,k2,k3⟩,⟨m1,m2⟩,n1⟩,p0,p4,p7,p8,p12⟩:=hd'
 have wt:∀{o:Oper} {a':Act},o.guard=none->Region.wanted o (yielded ops a'.tmps)=true:=λh=>by simp[Region.wanted,h]
 obtain⟨q0,q0',aDa,g0⟩:=h0
 obtain⟨q4,q4',azA,g4⟩:=h4
 obtain⟨q7,q7',aDc,g7⟩:=h7
 obtain⟨q8,q8',aDd,g8⟩:=h8
 obtain⟨q12,aDb,azi,g12⟩:=h12
 have hmx:(1048576:Nat)<=maxLen:=Aaj
 have hbb:∀m,m<=1048576->m*i.bytes<=140737488355328:=λm h=>aEP (Nat.mul_le_mul h aB8) Aae
 have hfl:∀q:List α,∀u∈GR.flat enc q,u.oneCell'=true:=λq u hu=>by
  obtain⟨t,_,ht'⟩:=aGa.1 hu
  exact h1 t u ht'
 have mk0:∀{v l r K} {a':Act} {x:World},Ins enc te i.size w v l r e x->(∀u y,Below w.heap.size x y->Ins enc te i.size w u [] r e y->K (a'.put (some d0) u) y)->o0.wp P a' x K Q:=λ{v l r K a' x} h hK=>by
  unfold Oper.wp execOp
  simp[q0',aDa,Instr.buildSlice,run_underlying ht,sizeOf,typeInfo,hi,Instr.fill,newRow,Oper.upon]
  rw [show(Array.range 0).map (λ_=>(default:Value))=#[] by simp]
  exact hK _ _ ((au x _).mono h.bel.size) h.lit0
 have mk7:∀{v l r K} {a':Act} {x:World},Ins enc te i.size w v l r e x->a'.eval (.tmp X)=ve->(∀g y,Below w.heap.size x y->Ins enc te i.size w v l (some g) e y->K (a'.put (some d7) (.slice (some ⟨g,0,none⟩) 1 1)) y)->o7.wp P a' x K Q:=λ{v l r K a' x} h hX' hK=>by
  refine wp_buildSlice ts te 1 _ q7' (enc e).toArray i z ht hi hz0 Aaa Aaa ?_ ?_
  .simp only[List.map_toArray,List.map_cons,List.map_nil,hX'];rw [<-hzs] at hf ⊢;exact hf
  .rw [aDc];exact hK _ _ ((au x _).mono h.bel.size) h.lit1
 have ap:∀{o:Oper} {d s t:Nat} {v l k r K} {a':Act} {x:World} {A:Option Addr} {c:Nat},o.op=apO ts s t->o.dst=some d->Ins enc te i.size w v l r e x->a'.eval (.tmp s)=v->a'.eval (.tmp t)= .slice A k.length c->GR.At enc i.size x A k->l.length+k.length<=1048576->
  (∀v' y,Below w.heap.size x y->Ins enc te i.size w v' (l++k) r e y->K (a'.put (some d) v') y)->o.wp P a' x K Q:=λ{o d s t v l k r K a' x A c} hop hdst h hsv htv hat hl hK=>by
  obtain⟨v',y,hr,hy,hg,hw⟩:=qJ (P:=P) hs hz x w.heap.size ts o.type te i z i.bytes ht hi hz0 rfl rfl hzs v l.length (GR.flat enc l) h.own A k c hat (hfl k) (aEP hl hmx) (hbb _ hl) h.bel.size
  have h2:=h.app hy hg hw
  refine aGJ x (.tmp s) (.tmp t) ts ts hop _ _ hsv htv v' y hr ?_
  rw [hdst]
  exact hK v' y h2.1 h2.2
 have hI0:Ins enc te i.size w (.slice none 0 0) [] none e w:=⟨aEY _ _,World.ownsRow_nil w _ te i.size,λg hg=>by cases hg⟩
 have hone:∀{g:Nat} {y:World},y.heap[g]?=some (.cells (enc e).toArray te (0,0))->GR.At enc i.size y (some ⟨g,0,none⟩) [e]:=λ{g y} h q hq=>by
  obtain rfl:q=0:=Abh
  exact⟨g,0,rfl,ay h,λj hj=>by rw [aEW y g _ _ _ (0,0) h];simp⟩
 have T2:∀v0 v4 g x,Ins enc te i.size w v4 l (some g) e x->lJ P md ops Q E w.heap.size (f+2) (sx (sx (sx L i0) i4) i7) (((a.put (some d0) v0).put (some d4) v4).put (some d7) (.slice (some ⟨g,0,none⟩) 1 1)) x:=λv0 v4 g x h=>by
  refine jc i8 q8 r5 (wt g8) (Ne.symm p8) (λy hy=>?_)
  have h':=h.ge hy
  refine ap (k:=[e]) (c:=1) q8' aDd h' ((oU (Ne.symm b1)).trans (put_eq (by simpa [Act.put] using s4))) (put_eq (by simpa [Act.put] using s7)) (hone (h'.one g rfl).1) Aah (λv8 y' hy' hI=>⟨hy',?_⟩)
  refine jc i12 q12 r6 (wt g12) (Ne.symm p12) (λy2 hy2=>?_)
  have hI2:=hI.ge hy2
  refine ap (k:=k) (c:=c') aDb azi hI2 (put_eq (by simpa [Act.put] using s8)) (((oU e3).trans ((oU c4).trans ((oU b5).trans (oU a6)))).trans hS) (hB.below hI2.bel) Aah (λv12 y3 hy3 Sg=>⟨hy3,H _ _ _ _ _ y3 Sg.bel Sg.own⟩)
 have S20:∀v0 v4 x,Ins enc te i.size w v4 l none e x->lJ P md ops Q E w.heap.size (f+3) (sx (sx L i0) i4) ((a.put (some d0) v0).put (some d4) v4) x:=λv0 v4 x h=>by
  refine jc i7 q7 r3 (wt g7) (Ne.symm p7) (λy hy=>?_)
  exact mk7 (h.ge hy) (((oU b3).trans (oU a4)).trans hX) (λg y' hy' hI=>⟨hy',T2 _ _ _ _ hI⟩)
 have S11:∀v0 g x,Ins enc te i.size w v0 [] (some g) e x->lJ P md ops Q E w.heap.size (f+3) (sx (sx L i0) i7) ((a.put (some d0) v0).put (some d7) (.slice (some ⟨g,0,none⟩) 1 1)) x:=λv0 g x h=>by
  refine jc i4 q4 r4 (wt g4) (Ne.symm p4) (λy hy=>?_)
  have h':=h.ge hy
  refine ap (k:=l) (c:=c) q4' azA h' ((oU (Ne.symm a2)).trans (put_eq s0)) (((oU c3).trans (oU a5)).trans hR) (hA.below h'.bel) Aah (λv4 y' hy' hI=>⟨hy',?_⟩)
  rw [put_comm (Ne.symm b1),Array.setIfInBounds_comm _ _ (Ne.symm k1)]
  exact T2 _ _ _ _ hI
 have S10:∀v0 x,Ins enc te i.size w v0 [] none e x->lJ P md ops Q E w.heap.size (f+4) (sx L i0) (a.put (some d0) v0) x:=λv0 x h=>by
  refine vH i4 i7 q4 q7 r1 (wt g4) (wt g7) (Ne.symm p4) (Ne.symm p7) (λy hy=>?_) (λy hy=>?_)
  .have h':=h.ge hy;exact ap (k:=l) (c:=c) q4' azA h' (put_eq s0) ((oU a5).trans hR) (hA.below h'.bel) Aah (λv4 y' hy' hI=>⟨hy',S20 _ _ _ hI⟩)
  .exact mk7 (h.ge hy) ((oU a4).trans hX) (λg y' hy' hI=>⟨hy',S11 _ _ _ hI⟩)
 refine vH i0 i7 q0 q7 r0 (wt g0) (wt g7) (Ne.symm p0) (Ne.symm p7) (λy hy=>mk0 (hI0.ge hy) (λv0 y' hy' hI=>⟨hy',S10 _ _ hI⟩)) (λy hy=>mk7 (hI0.ge hy) hX (λg y' hy' hI=>⟨hy',?_⟩))
 refine jc i0 q0 r2 (wt g0) (Ne.symm p0) (λy2 hy2=>mk0 (hI.ge hy2) (λv0 y3 hy3 Sg=>⟨hy3,?_⟩))
 rw [put_comm (Ne.symm a2),Array.setIfInBounds_comm _ _ (Ne.symm j2)]
 exact S11 _ _ _ Sg
end
end Go.Proofs.YtbolgdleijjgfaaGreatDoor
