/- Parts. -/
import Derived.Test.YtacgbldlonoaaaaGreatDoorRw4
import Derived.Test.YtacgbldlonoaaaaGreatDoorRw7
namespace Go.Proofs.YtacgbldlonoaaaaGreatDoor
open Go.Proofs.Tryz
set_option maxHeartbeats 4000000
open Go.RowKit
open Mth
variable (s:ByteArray) {i:Int} {W:World} {n c:Nat} {G:Option (Nat×Nat)} {a b:List UInt8} {t:ByteArray}
def rU (o:Option (Nat×Nat)) (i:Int):Value:=
 match o with
 |none=> .tuple #[.int .i64 0,.int .i64 (-1)]
 |some (n,c)=> .tuple #[.int .i64 n,.int .i64 (i+c)]
theorem get_some {a b:Int} (hG:G=some (n,c)) (ha:a=n) (hb:b=i+c):Ending.returned (.tuple #[.int .i64 a,.int .i64 b])= .returned (rU G i):=by
 subst hG;subst ha;subst hb;rfl
theorem get_none (hG:G=none):Ending.returned (.tuple #[.int .i64 0,.int .i64 (-1)])= .returned (rU G i):=by
 subst hG;rfl
theorem zH (i j k:Nat) (hk:k=i+j) (hlt:k < s.size):(s.extract i (k+1)).toList=(s.data.toList.drop i).take j++[s[k]]:=by
 subst hk;rw [Lib.extract_toList];have e:i+j+1 - i=j+1:=Aaa
 rw [e,List.take_succ_eq_append_getElem (by simp;show j < s.size - i;omega)];simp;rfl
theorem acZ {j v:Nat} (h:qV j v):v=128 ^ j:=by
 unfold qV at h;rcases h with⟨rfl,rfl⟩|⟨rfl,rfl⟩|⟨rfl,rfl⟩|⟨rfl,rfl⟩|⟨rfl,rfl⟩|⟨rfl,rfl⟩<;>rfl
def yL (s:ByteArray) (i j m:Nat):Prop:=((s.data.toList.drop i).take j).length=j/\(∀c∈(s.data.toList.drop i).take j,128<=c.toNat)/\m=Mth.val ((s.data.toList.drop i).take j)
theorem acI (i:Nat):yL s i 0 0:=⟨Aac,Aac,by simp[Mth.val]⟩
theorem xq (i j k:Nat) (hk:k=i+j) (hlt:k < s.size):(s.data.toList.drop i).take (j+1)=(s.data.toList.drop i).take j++[s[k]]:=by
 have h:=zH s i j k hk hlt;rw [Lib.extract_toList] at h;have e:k+1 - i=j+1:=Aaa
 rw [e] at h;exact h
theorem Rf (i j k m v:Nat) (hk:k=i+j) (hlt:k < s.size) (hu:qV j v) (h:yL s i j m):Mth.val ((s.data.toList.drop i).take (j+1))=m+s[k].toNat % 128*v:=by
 rw [xq s i j k hk hlt,Mth.val_snoc,h.1,<-h.2.2,acZ hu]
theorem Ye (i j k m v:Nat) (hk:k=i+j) (hlt:k < s.size) (hu:qV j v) (hb:128<=s[k].toNat) (h:yL s i j m):yL s i (j+1) (m+s[k].toNat % 128*v):=by
 refine⟨?_,?_,(Rf s i j k m v hk hlt hu h).symm⟩
 .rw [xq s i j k hk hlt,List.length_append,h.1];rfl
 .intro c hc;rw [xq s i j k hk hlt,List.mem_append] at hc;rcases hc with hc|hc
  .exact h.2.1 c hc
  .simp at hc;subst hc;exact hb
theorem adZ (i j k m v:Nat) (hk:k=i+j) (hlt:k < s.size) (hu:qV j v) (hj:j < 5) (hb:¬128<=s[k].toNat) (h:yL s i j m) (hz:s[k].toNat≠0\/j=0):
 Mth.put (m+s[k].toNat*v)=(s.extract i (k+1)).toList:=by
 have e:m+s[k].toNat*v=Mth.val ((s.data.toList.drop i).take j++[s[k]]):=by
  exact ahL
 rw [e,zH s i j k hk hlt]
 exact Mth.putF_val _ _ Aaa 5 (by rw [h.1];omega) h.2.1 (by
  rcases hz with hz|hz
  .exact .inl hz
  .subst hz;exact .inr Aac)
theorem ajh (i j k m v:Nat) (hk:k=i+j) (hlt:k < s.size) (hu:qV j v) (hj:j < 5) (h:yL s i j m) (hz:s[k].toNat=0) (hj0:0 < j):
 Mth.put (m+s[k].toNat*v)≠(s.extract i (k+1)).toList:=by
 have e:m+s[k].toNat*v=Mth.val ((s.data.toList.drop i).take j++[s[k]]):=by
  exact ahL
 rw [e,zH s i j k hk hlt];exact Mth.putF_nought _ _ hz (by intro hn;have:=h.1;rw [hn] at this;simp at this;omega) 5 (by rw [h.1];omega)
set_option maxRecDepth 100000
theorem Gh (i:Int) (w:World) (h:i < 0):Calls prog 181 #[.string s,.int .i64 i] w λe w'=>e= .returned (rU none i)/\w=w':=by
 have h0:decide (0<=i)=false:=Aaf
 go_in
 go_wp2
 refine wp_loop_rounds 1 ?_;rw [rounds_succ];go_wp2
 go_ret2
 exact⟨rfl,rfl⟩
theorem WQ (h:a=b):(a == b)=true:=by simp[h]
theorem JZ (h:a≠b):(a == b)=false:=by simp[h]
theorem Un (i:Nat) (w:World) (hs:s.size<=maxLen):Calls prog 181 #[.string s,.int .i64 i] w (fF w (rU (Mth.get s.data.toList i) i)):=by
 unfold maxLen at hs;go_in
 go_wp2
 go_loop [6,7,8] (λn u a=>∃j m v k:Nat,qV j v/\m < v/\n= .int .i64 m/\u= .int .i64 v/\a= .int .i64 k/\k=i+j/\yL s i j m/\Mth.getF (5 - j) (s.data.toList.drop k) m v j=Mth.get s.data.toList i) (λ_ _ a=>s.size - (intOf a).toNat)
 case atStart=>exact⟨0,0,1,i,.inl ⟨rfl,rfl⟩,Aaa,rfl,rfl,rfl,rfl,acI s i,rfl⟩
 case round=>
  obtain⟨j,m,v,k,hu,hm,rfl,rfl,rfl,hk,hread,hget⟩:=hrel;have HG:=Hq hget;have HK:=Hq hk;have Ru:=Hq hread;have aCy:(k:Int) - (i:Int)<=j:=Aaa
  have aCz:(j:Int)<=(k:Int) - (i:Int):=Aaa
  clear hget hk hread;obtain⟨hv1,hv2,hu2,hv5⟩:=VU hu;have HU0:=Hq hu;by_cases hlt:k < s.size
  .by_cases hj:j < 5
   .open aqP in exact afu
   .obtain⟨rfl,ax2⟩:=hv5 hj;have HR:=Hq (Mth.get_full _ _ _ _ HG);exact ahO
  .have HR:=Hq (Mth.get_end s k _ m _ _ hlt HG);exact ahO
def iD (s:ByteArray) (i:Int):Option (Nat×Nat):=if i < 0 then none else Mth.get s.data.toList i.toNat
theorem BZ (i:Int) (h:i < 0):iD s i=none:=by simp[iD,h]
theorem sK (n:Nat):iD s n=Mth.get s.data.toList n:=by
 unfold iD;rw [if_neg Aaa];rfl
theorem acu (i:Int) (w:World) (hs:s.size<=maxLen):Calls prog 241 #[.string s,.int .i64 i] w λe w'=>e= .returned (rW (iD s i) i)/\w=w':=by
 by_cases h:i < 0
 .rw [BZ s i h];exact XP s i w h
 .obtain⟨n,rfl⟩:=Int.eq_ofNat_of_zero_le (show 0<=i by omega);rw [sK];exact ayv s n w hs
theorem Dg (i:Int) (w:World) (hs:s.size<=maxLen):Calls prog 181 #[.string s,.int .i64 i] w (fF w (rU (iD s i) i)):=by
 by_cases h:i < 0
 .rw [BZ s i h];exact(Gh s i w h).mono λe w' ⟨he,hw⟩=>⟨he,hw▸Below.refl _ _⟩
 .obtain⟨n,rfl⟩:=Int.eq_ofNat_of_zero_le (show 0<=i by omega);rw [sK];exact Un s n w hs
theorem Pv (i:Int) (w:World) (hs:s.size<=maxLen) (hH:Handle w):Calls prog 244 #[.string s,.int .i64 i] w (fF w (rU (iD s i) i)):=by
 have HN:=Hq (λw1=>acu s i w1 hs);have HH:=Hq hH;clear hH;cases hG:iD s i with
 |none=>
  rw [hG] at HN
  go_in
  go_wp2_with (first|(go_at_call 241;refine(HN _).mono ?_;rintro e w' ⟨rfl,rfl⟩;simp only[rW])|(go_at_call 217;refine(P8 _ _ HH).mono ?_;rintro e w' ⟨rfl,hbel⟩))
  go_ret2
  exact⟨rfl,hbel⟩
 |some p=>
  obtain⟨n,c⟩:=p
  rw [hG] at HN
  go_in
  go_wp2_with (first|(go_at_call 241;refine(HN _).mono ?_;rintro e w' ⟨rfl,rfl⟩;simp only[rW])|(go_at_call 217;refine(P7 _).mono ?_;rintro e w' ⟨rfl,hbel⟩))
  go_ret2
  exact⟨rfl,hbel⟩
def Ez (o:Option (ByteArray×Nat)):Value:=
 match o with
 |none=> .tuple #[.string ByteArray.empty,.int .i64 (-1)]
 |some (t,b)=> .tuple #[.string t,.int .i64 b]
def textOf (s:ByteArray) (i:Nat) (o:Option (Nat×Nat)):Option (ByteArray×Nat):=
 match o with
 |none=>none
 |some (n,c)=>if 1000 < n\/s.size - (i+c) < n then none else some (s.extract (i+c) (i+c+n),i+c+n)
theorem uy {s:ByteArray} (h:iD s i=some (n,c)):∃k:Nat,i=k/\Mth.get s.data.toList k=some (n,c)/\n<=4000000000/\k+c<=s.size:=by
 by_cases h0:i < 0
 .rw [BZ s i h0] at h;cases h
 .obtain⟨k,rfl⟩:=Int.eq_ofNat_of_zero_le (show 0<=i by omega);have h':iD s (k:Int)=some (n,c):=h;rw [sK] at h';have hb:=Mth.get_bound _ _ _ _ h';rw [aH] at hb;exact⟨k,rfl,h',hb.1,hb.2.2.2⟩
theorem QS (i:Int) (w:World) (hs:s.size<=maxLen):Calls prog 139 #[.string s,.int .i64 i] w (fF w (Ez (textOf s i.toNat (iD s i)))):=by
 have HS:=Hq (λw1=>Dg s i w1 hs);unfold maxLen at hs;cases hG:iD s i with
 |none=>
  rw [hG] at HS
  go_in
  go_wp2_with (go_at_call 181;refine(HS _).mono ?_;rintro e w1 ⟨rfl,hb1⟩;simp only[rU])
  go_ret2
  exact⟨rfl,hb1⟩
 |some p=>
  obtain⟨n,c⟩:=p
  obtain⟨k,rfl,_,hn,hk⟩:=uy hG
  rw [hG] at HS
  by_cases hbad:1000 < n\/s.size - (k+c) < n
  .have HR:Hid (textOf s k (some (n,c))=none):=by unfold textOf;exact if_pos hbad
   rw [Int.toNat_natCast];by_cases h1:1000 < n
   .exact axO
   .have h2:(s.size:Int) - ((k:Int)+(c:Int)) < (n:Int):=Aaa
    exact axO
  .open atg in exact agb
def Np (o:Option (Nat×Nat)) (i:Int):Value:=
 match o with
 |none=> .iface 279 (.agg #[.iface 279 (.agg #[.iface 281 (.agg #[.int .i64 i])])])
 |some _=> .iface 279 (.agg #[.iface 281 (.agg #[.int .i64 i])])
def tV (t:Option (ByteArray×Nat)) (o:Option (Nat×Nat)) (i:Int):Value:=
 match t with
 |none=> .tuple #[.string ByteArray.empty,.int .i64 0,Np o i]
 |some (x,b)=> .tuple #[.string x,.int .i64 b,.nilIface]
theorem aj8 (i:Int) (w:World) (hs:s.size<=maxLen):Calls prog 216 #[.string s,.int .i64 i] w (fF w (tV (textOf s i.toNat (iD s i)) (iD s i) i)):=by
 have HS:=Hq (λw1=>acu s i w1 hs);unfold maxLen at hs;cases hG:iD s i with
 |none=>
  rw [hG] at HS
  go_in
  go_wp2_with (go_at_call 241;refine(HS _).mono ?_;rintro e w1 ⟨rfl,rfl⟩;simp only[rW])
  go_ret3
  exact⟨rfl,Below.refl _ _⟩
 |some p=>
  obtain⟨n,c⟩:=p
  obtain⟨k,rfl,_,hn,hk⟩:=uy hG
  rw [hG] at HS
  by_cases hbad:1000 < n\/s.size - (k+c) < n
  .have HR:Hid (textOf s k (some (n,c))=none):=by unfold textOf;exact if_pos hbad
   rw [Int.toNat_natCast];by_cases h1:1000 < n
   .exact axA
   .have h2:(s.size:Int) - ((k:Int)+(c:Int)) < (n:Int):=Aaa
    exact axA
  .open ath in exact agb
theorem Pw (i:Int) (w:World) (hs:s.size<=maxLen) (hH:Handle w):Calls prog 183 #[.string s,.int .i64 i] w (fF w (Ez (textOf s i.toNat (iD s i)))):=by
 have HN:=Hq (λw1=>aj8 s i w1 hs);have HH:=Hq hH;clear hH;cases hT:textOf s i.toNat (iD s i) with
 |none=>
  rw [hT] at HN
  cases hG:iD s i with
  |none=>
   rw [hG] at HN
   go_in
   go_wp2_with (first|(go_at_call 216;refine(HN _).mono ?_;rintro e w1 ⟨rfl,hb1⟩;simp only[tV,Np])|(go_at_call 217;refine(abW _ _ (HH.below hb1)).mono ?_;rintro e w2 ⟨rfl,hb2⟩))
   go_ret2
   exact⟨rfl,hb1.trans (hb2.mono hb1.size)⟩
  |some p=>
   rw [hG] at HN
   go_in
   go_wp2_with (first|(go_at_call 216;refine(HN _).mono ?_;rintro e w1 ⟨rfl,hb1⟩;simp only[tV,Np])|(go_at_call 217;refine(P8 _ _ (HH.below hb1)).mono ?_;rintro e w2 ⟨rfl,hb2⟩))
   go_ret2
   exact⟨rfl,hb1.trans (hb2.mono hb1.size)⟩
 |some p=>
  obtain⟨x,b⟩:=p
  rw [hT] at HN
  go_in
  go_wp2_with (first|(go_at_call 216;refine(HN _).mono ?_;rintro e w1 ⟨rfl,hb1⟩;simp only[tV])|(go_at_call 217;refine(P7 _).mono ?_;rintro e w2 ⟨rfl,hb2⟩))
  go_ret2
  exact⟨rfl,hb1.trans (hb2.mono hb1.size)⟩
def aeC (o:Option (Nat×Nat)):Int:=match o with|none=>0|some (n,_)=>n
def acv (o:Option (Nat×Nat)) (i:Int):Int:=match o with|none=> -1|some (_,c)=>i+c
theorem Fv (o:Option (Nat×Nat)) (i:Int):rU o i= .tuple #[.int .i64 (aeC o),.int .i64 (acv o i)]:=by cases o<;>rfl
def YA (o:Option (ByteArray×Nat)):ByteArray:=match o with|none=>ByteArray.empty|some (t,_)=>t
def Ra (o:Option (ByteArray×Nat)):Int:=match o with|none=> -1|some (_,b)=>b
theorem Dh (o:Option (ByteArray×Nat)):Ez o= .tuple #[.string (YA o),.int .i64 (Ra o)]:=by cases o<;>rfl
theorem F8 {s:ByteArray} (h:iD s i=some (n,c)):∃k:Nat,i=k/\k+c<=s.size/\0 < c/\n<=4000000000/\(lZ n).toList=(s.extract k (k+c)).toList:=by
 obtain⟨k,rfl,hg,hn,hk⟩:=uy h;have hb:=Mth.get_bound _ _ _ _ hg;refine⟨k,rfl,hk,hb.2.1,hn,?_⟩;unfold lZ;rw [if_pos Aaa,Int.toNat_natCast,ByteArray.toList_mk,Lib.extract_toList,Mth.get_was_put _ _ _ _ hg];congr 1;omega
theorem Yf {s:ByteArray} {e:Nat} (h:textOf s i.toNat (iD s i)=some (t,e)):∃k:Nat,i=k/\k < e/\e<=s.size/\t.size<=1000/\(jy t).toList=(s.extract k e).toList:=by
 cases hG:iD s i with
 |none=>rw [hG] at h;simp[textOf] at h
 |some p=>
  obtain⟨n,c⟩:=p
  obtain⟨k,rfl,hk,hc,hn,hput⟩:=F8 hG
  rw [hG,Int.toNat_natCast] at h
  unfold textOf at h
  simp only at h
  split at h
  .cases h
  .rename_i hbad
   simp only[Option.some.injEq,Prod.mk.injEq] at h;obtain⟨rfl,rfl⟩:=h;have hsz:(s.extract (k+c) (k+c+n)).size=n:=Acf
   refine⟨k,rfl,Aaa,Aaa,Aaa,?_⟩;unfold jy;rw [if_pos Aaa];unfold nH;rw [ByteArray.toList_mk,hsz]
   have e1:Mth.put n=(s.extract k (k+c)).toList:=by
    rw [<-hput];unfold lZ;rw [if_pos Aaa,Int.toNat_natCast,ByteArray.toList_mk]
   rw [e1,Lib.extract_toList,Lib.extract_data,Lib.extract_toList];have h1:k+c - k=c:=Aaa
   have h2:k+c+n - (k+c)=n:=Aaa
   have h3:k+c+n - k=c+n:=Aaa
   rw [h1,h2,h3,<-List.drop_drop,List.take_add]
def ZQ (k:IntKind) (w:World) (a:Option Addr) (len cap:Nat) (zs:List Int):Prop:=
 (a=none/\len=0/\cap=0/\zs=[])\/
 ∃x,a=some x/\len<=cap/\cap<=maxLen/\zs.length=cap/\(∀i,i < zs.length->w.cell? (x.add i)=some (.int k (zs.getD i 0)))/\∀n∈zs,(Lit.int k n).wf=true
theorem ad1 {w:World} {a:Option Addr} {len cap:Nat} {zs:List Int} (h:ZQ .u8 w a len cap zs) (hl:len<=1048576):xW w a len:=by
 rcases h with⟨_,rfl,_⟩|⟨x,rfl,h1,_,h3,hc,hw⟩
 .exact⟨Aaa,λj hj=>Aaa⟩
 .refine⟨hl,λj hj=>?_⟩;have hj':j < zs.length:=Aaa
  obtain⟨b,off,spot⟩:=x;have hc0:=hc 0 Aaa;have hspot:spot=none:=by simpa [Addr.add] using World.cell?_spot hc0
  subst hspot;have hcj:=hc j hj'
  have ax4:w.cell? ⟨b,off+j,none⟩=some (.int .u8 (zs.getD j 0)):=by
   by_cases h0:j=0
   .subst h0;simpa [Addr.add] using hcj
   .simpa [Addr.add,h0] using hcj
  have hbl:b < w.heap.size:=by
   rcases Nat.lt_or_ge b w.heap.size with h'|h'
   .exact h'
   .simp[World.cell?,Array.getElem?_eq_none h'] at ax4
  have hz:=bounds_u8 (hw (zs.getD j 0) (by simp[List.getD,hj']));exact⟨b,off,zs.getD j 0,rfl,hbl,hz.1,hz.2,ax4⟩
theorem aAY:prog.globalNamed "errors.errorType" =some 5:=Aab
theorem aj5:(prog.cutTypes.find? (·.1 == "internal/reflectlite.rtype")).map (·.2)=some 317:=Aab
theorem ajX:((List.range 367).filter λt=>prog.rowNamed t [101,114,114,111,114])=[248]:=Aab
theorem YC:prog.types.size=367:=Aab
theorem Xh {l:List (String×DataW Unit)} (h:handlesMet prog l W) (hm:("errors.errorType",Rows.laid_errors_errorType)∈l):Handle W:=by
 obtain⟨name,u,ty,e1,e2,e3,e4,e5⟩:=h _ hm;have en:name=[101,114,114,111,114]:=(Option.some.inj e1).symm;subst en;obtain rfl:=Option.some.inj (aj5.symm.trans e2);have hm:ty∈(List.range 367).filter λt=>prog.rowNamed t [101,114,114,111,114]:=List.mem_filter.2 ⟨List.mem_range.2 (by rw [<-YC];exact e3),e4⟩
 rw [ajX] at hm;obtain rfl:=List.mem_singleton.1 hm;have hh:typeHandle prog 248= .pointer (some ⟨6,248,none⟩):=Aab
 rw [hh] at e5;have:=World.var?_cell aAY e5 0;unfold Handle;simpa using this
theorem Tf:(prog.globals[2]?).map (·.type)=some 248:=Aab
theorem ad9:(prog.globals[0]?).map (·.type)=some 248:=Aab
theorem Te:(prog.globals[1]?).map (·.type)=some 248:=Aab
theorem ad8:(prog.globals[3]?).map (·.type)=some 248:=Aab
theorem abf:(prog.globals[4]?).map (·.type)=some 248:=Aab
theorem Xd:prog.globalNamed "loop.example/g00264/impl.errNoPurses" =some 2:=Aab
theorem ajl:prog.globalNamed "loop.example/g00264/impl.errNoKey" =some 0:=Aab
theorem Xc:prog.globalNamed "loop.example/g00264/impl.errNoAmount" =some 1:=Aab
theorem ajk:prog.globalNamed "loop.example/g00264/impl.errFewer" =some 3:=Aab
theorem ad7:prog.globalNamed "loop.example/g00264/impl.errBeyond" =some 4:=Aab
theorem aaY:prog.cellsOf 356=1:=Aab
theorem aaZ:prog.cellsOf 9=1:=Aab
theorem VT: "*" ++ "errors.errorString" = "*errors.errorString" :=Aae
theorem aj4 (u:TypeId) (h:prog.typeName? 3 u=some "*errors.errorString"):u=338:=
 typeName_ptr_named (nm:= "errors.errorString") (by rw [VT];kernel_rfl) Aab Aae u (by rw [VT];exact h)
theorem QD {n:String} {text:List UInt8} {r:List (String×DataW Unit)} {g:Nat} (h:laidMet prog ((n,.iface "*errors.errorString" (.ptr (.agg [.lit (.string text)])))::r) W) (hg:prog.globalNamed n=some g) (ht:(prog.globals[g]?).map (·.type)=some 248):
 ∃(a:Addr) (s:ByteArray) (c:Array Value) (t:TypeId),W.cell? ⟨g,0,none⟩=some (uw a)/\W.cell? a=some (.string s)/\s.data.toList=text/\W.heap[a.block]?=some (.cells c t (0,0)):=by
 obtain⟨ps,⟨g0',t0',cs0,f0,p0,q0,hg0',ht0',hv0,hd0,_,e0⟩,hnd,hrows⟩:=h;obtain rfl:=Option.some.inj (hg.symm.trans hg0');obtain rfl:=Option.some.inj (ht.symm.trans ht0');subst e0;obtain⟨l0⟩:=cs0
 have ok0:∀u v,l0=[.iface u v]->Value.okWide prog W .any 0 u v:=λu v e=>by
  subst e
  exact(hrows g 0 (by simp[MemPlace.row])).2 u v (by simpa using World.var?_cell hg0' hv0 0)
 obtain⟨a0,s0,rfl,hc0,hs0,hz0,rfl⟩:=errorString_of_trod underlying248 aj4 underlying338 underlying356 rfl rfl underlying9 aaY aaZ hd0 ok0;obtain⟨c0,t0,hb0⟩:=(hrows a0.block a0.off (by simp[MemPlace.row])).1;exact⟨a0,s0,c0,t0,by simpa using World.var?_cell hg0' hv0 0,hc0,hs0,hb0⟩
theorem apart {a b:Addr} {s:ByteArray} (ha:W.cell? a=some (.string s)) (hb:W.cell? b=some (.string t)) (hne:s.data.toList≠t.data.toList):a≠b:=λe=>by
 rw [e,hb] at ha;injection ha with ha
 injection ha with ha
 exact hne (by rw [ha])
theorem aa8 (h:laidMet prog [("loop.example/g00264/impl.errNoPurses",Rows.laid_loop_example_g00264_impl_errNoPurses),("loop.example/g00264/impl.errNoKey",Rows.laid_loop_example_g00264_impl_errNoKey),("loop.example/g00264/impl.errNoAmount",Rows.laid_loop_example_g00264_impl_errNoAmount),("loop.example/g00264/impl.errFewer",Rows.laid_loop_example_g00264_impl_errFewer),("loop.example/g00264/impl.errBeyond",Rows.laid_loop_example_g00264_impl_errBeyond)] W):∃E,iH W E:=by
 obtain⟨a2,s2,k2,t2,v2,c2,x2,b2⟩:=QD h Xd Tf;have h1:=h.tail;obtain⟨a0,s0,k0,t0,v0,c0,x0,b0⟩:=QD h1 ajl ad9;have h2:=h1.tail;obtain⟨a1,s1,k1,t1,v1,c1,x1,b1⟩:=QD h2 Xc Te;have h3:=h2.tail;obtain⟨a3,s3,k3,t3,v3,c3,x3,b3⟩:=QD h3 ajk ad8;have h4:=h3.tail;obtain⟨a4,s4,k4,t4,v4,c4,x4,b4⟩:=QD h4 ad7 abf;let E:Nat->Addr:=λi=>if i=2 then a2 else if i=0 then a0 else if i=1 then a1 else if i=3 then a3 else a4
 let T:Nat->ByteArray:=λi=>if i=2 then s2 else if i=0 then s0 else if i=1 then s1 else if i=3 then s3 else s4
 have hT:∀i,i < 5->W.cell? (E i)=some (.string (T i)):=λi hi=>by
  have:i=0\/i=1\/i=2\/i=3\/i=4:=Aaa
  rcases this with rfl|rfl|rfl|rfl|rfl
  all_goals first|exact c0|exact c1|exact c2|exact c3|exact c4
 refine⟨E,⟨λi hi=>?_,λi hi=>?_,λi j hi hj hne=>apart (hT i hi) (hT j hj) ?_⟩⟩
 .have:i=0\/i=1\/i=2\/i=3\/i=4:=Aaa
  rcases this with rfl|rfl|rfl|rfl|rfl
  all_goals first|exact v0|exact v1|exact v2|exact v3|exact v4
 .have:i=0\/i=1\/i=2\/i=3\/i=4:=Aaa
  rcases this with rfl|rfl|rfl|rfl|rfl
  all_goals first|exact⟨_,_,b0⟩|exact⟨_,_,b1⟩|exact⟨_,_,b2⟩|exact⟨_,_,b3⟩|exact⟨_,_,b4⟩
 .have hi':i=0\/i=1\/i=2\/i=3\/i=4:=Aaa
  have hj':j=0\/j=1\/j=2\/j=3\/j=4:=Aaa
  rcases hi' with rfl|rfl|rfl|rfl|rfl<;>rcases hj' with rfl|rfl|rfl|rfl|rfl
  all_goals first|exact absurd rfl hne|(simp[T,x0,x1,x2,x3,x4])
theorem Lh (h:laidMetH prog Rows.fnReplayRow.laid W):(∃E,iH W E)/\Handle W:=by
 have h':laidMet prog [("loop.example/g00264/impl.errNoPurses",Rows.laid_loop_example_g00264_impl_errNoPurses),("loop.example/g00264/impl.errNoKey",Rows.laid_loop_example_g00264_impl_errNoKey),("loop.example/g00264/impl.errNoAmount",Rows.laid_loop_example_g00264_impl_errNoAmount),("loop.example/g00264/impl.errFewer",Rows.laid_loop_example_g00264_impl_errFewer),("loop.example/g00264/impl.errBeyond",Rows.laid_loop_example_g00264_impl_errBeyond)] W/\handlesMet prog [("errors.errorType",Rows.laid_errors_errorType)] W:=h;exact⟨aa8 h'.1,Xh h'.2 (List.mem_singleton.2 rfl)⟩
end Go.Proofs.YtacgbldlonoaaaaGreatDoor
