import Derived.Test.YtciihepbeacppaaGreatProg
import Derived.WalkKit
import Derived.WalkLawsBesides
import Derived.WalkSpells
import Derived.Lib.Strings
import Derived.Laws.BytesArg
import Derived.Laws.IdiomStrings
import Derived.Lib.AppendStr
import Derived.BigQuiet
import Derived.Deep.QuietTactic
import Derived.Deep.RegionLaw
set_option maxRecDepth 100000
set_option maxHeartbeats 0
namespace Go.Proofs.YtciihepbeacppaaGreat
open Tryz Go.RowKit List World Below
set_option linter.unusedVariables false
theorem zq0{a b:Prop}(h:a):a\/b:=Or.inl h
theorem zq1{a b:Prop}(h:b):a\/b:=Or.inr h
theorem zq2{a b:Prop}(h:a)(g:b):a/\b:=⟨h,g⟩
theorem zq3{a b c:Nat}(h:a<=b)(g:b<=c):a<=c:=Nat.le_trans h g
theorem zq4(a:Nat):a<=a:=Nat.le_refl a
theorem zq5(a:Nat):0<=a:=Nat.zero_le a
theorem zq6{a b c:Nat}(h:a<b)(g:b<=c):a<c:=Nat.lt_of_lt_of_le h g
theorem ab{p:Prop}(h:p):Hid p:=h
theorem uh{p:Prop}(h:Hid p):p:=h
def gZ(c:Int):Bool:=decide (97<=c)&&decide (c<=122)
def kA(c:Int):Bool:=decide (65<=c)&&decide (c<=90)
def aI(w:ByteArray):Bool:=match w.data.toList with|[c]=>gZ c.toNat|_=>false
def jH(w:ByteArray):Bool:=match w.data.toList with|[c]=>kA c.toNat|_=>false
def nA(c:Int):Bool:=c==61||c==42||c==40||c==41||c==44||c==59||c==123||c==125||c==46
theorem aB{a b:Bool}(h:a=b):Ending.returned (.bool a)=.returned (.bool b):=by rw[h]
theorem bj{k:IntKind}{a b:Int}(h:a=b):Ending.returned (.int k a)=.returned (.int k b):=by rw[h]
theorem jp(c:Int)(w:World):
  Calls prog 209 #[.int .u8 c] w λe w'=>e=.returned (.bool (gZ c))/\w'=w:=by
 by_cases h:97<=c
 .go_enter func209,ntmps209;go_wp2
  go_ret;exact⟨by simp[gZ,h],rfl⟩
 .have hd:decide (97<=c)=false:=by simpa using h
  go_enter func209,ntmps209;go_wp2
  go_ret;exact⟨by simp[gZ,hd],rfl⟩
theorem jm(c:Int)(w:World):
  Calls prog 210 #[.int .u8 c] w λe w'=>e=.returned (.bool (kA c))/\w'=w:=by
 by_cases h:65<=c
 .go_enter func210,ntmps210;go_wp2
  go_ret;exact⟨by simp[kA,h],rfl⟩
 .have hd:decide (65<=c)=false:=by simpa using h
  go_enter func210,ntmps210;go_wp2
  go_ret;exact⟨by simp[kA,hd],rfl⟩
theorem tz(c:Int)(w:World):
  Calls prog 182 #[.int .u8 c] w λe w'=>e=.returned (.bool (nA c))/\w'=w:=by
 go_enter func182,ntmps182;go_wp2
 all_goals
  go_ret;exact⟨aB (by simp[nA, *]),rfl⟩
theorem jr(w:ByteArray)(h:w.size=1):∃c:UInt8,w=⟨#[c]⟩:=by
 obtain⟨⟨l⟩⟩:=w;match l,h with
 |[c],_=>exact⟨c,rfl⟩
theorem tD(c:UInt8):aI ⟨#[c]⟩=gZ c.toNat:=rfl
theorem GA(c:UInt8):jH ⟨#[c]⟩=kA c.toNat:=rfl
theorem pm(w:ByteArray)(h:w.size≠1):aI w=false:=by
 obtain⟨⟨l⟩⟩:=w;match l,h with
 |[],_=>rfl
 |[_],h=>exact absurd rfl h
 |_::_::_,_=>rfl
theorem Gz(w:ByteArray)(h:w.size≠1):jH w=false:=by
 obtain⟨⟨l⟩⟩:=w;match l,h with
 |[],_=>rfl
 |[_],h=>exact absurd rfl h
 |_::_::_,_=>rfl
theorem Vb(c:UInt8)(h:0<(⟨#[c]⟩:ByteArray).size):(⟨#[c]⟩:ByteArray)[0]'h=c:=rfl
theorem ZK(s:ByteArray)(w:World):
  Calls prog 75 #[.string s] w λe w'=>e=.returned (.bool (aI s))/\w'=w:=by
 by_cases hs:s.size=1
 .obtain⟨c,rfl⟩:=jr s hs;clear hs;rw[tD];go_enter func75,ntmps75;go_wp2
  all_goals
   go_ret;exact⟨aB (by simp only[Vb]at *;simp_all [gZ] <;> try (intro _;omega)),rfl⟩
 .rw[pm s hs];go_enter func75,ntmps75;go_wp2
  go_ret;exact⟨rfl,rfl⟩
theorem lQ(s:ByteArray)(w:World):
  Calls prog 248 #[.string s] w λe w'=>e=.returned (.bool (aI s))/\w'=w:=by
 by_cases hs:s.size=1
 .obtain⟨c,rfl⟩:=jr s hs;clear hs;rw[tD];go_enter func248,ntmps248;go_wp2_with (go_at_call 209;refine(jp _ _).mono ?_;rintro e w' ⟨rfl,rfl⟩)
  go_ret;exact⟨rfl,rfl⟩
 .rw[pm s hs];go_enter func248,ntmps248;go_wp2_with fail
  go_ret;exact⟨rfl,rfl⟩
theorem oS(s:ByteArray)(w:World):
  Calls prog 211 #[.string s] w λe w'=>e=.returned (.bool (jH s))/\w'=w:=by
 by_cases hs:s.size=1
 .obtain⟨c,rfl⟩:=jr s hs;clear hs;rw[GA];go_enter func211,ntmps211;go_wp2_with (go_at_call 210;refine(jm _ _).mono ?_;rintro e w' ⟨rfl,rfl⟩)
  go_ret;exact⟨rfl,rfl⟩
 .rw[Gz s hs];go_enter func211,ntmps211;go_wp2_with fail
  go_ret;exact⟨rfl,rfl⟩
def ix(c:UInt8):Bool:=gZ c.toNat||kA c.toNat
def aP(l:List UInt8):Nat:=(l.takeWhile ix).length
theorem lU(l:List UInt8):aP l<=l.length:=by
 unfold aP;induction l with
 |nil=>simp
 |cons c r ih=>rw[takeWhile_cons];split <;> simp <;> omega
theorem vB(l:List UInt8)(k:Nat)(h:∀j,(hj:j<l.length)->j<k->ix l[j]=true)(hk:k<=l.length):aP l=k+aP (l.drop k):=by
 induction k generalizing l with
 |zero=>simp
 |succ k ih =>
  match l,hk with
  |c::r,hk =>
   have h0:ix c=true:=h 0 (by simp) (by omega);have:=ih r (λj hj m9=>h (j+1) (by simp;omega) (by omega)) (by simpa using hk);simp only[drop_succ_cons];simp only[aP,takeWhile_cons,h0,if_true,length_cons]at this ⊢;omega
theorem nk(l:List UInt8)(k:Nat)(h:∀j,(hj:j<l.length)->j<k->ix l[j]=true)(hk:k<=l.length)(hs:(hj:k<l.length)->ix l[k]=false):aP l=k:=by
 rw[vB l k h hk];by_cases ar:k<l.length
 .rw[drop_eq_getElem_cons ar];simp only[aP,takeWhile_cons,hs ar];simp
 .rw[drop_eq_nil_of_le (by omega)];rfl
theorem ph{l:List UInt8}{k:Nat}(h:∀j,(hj:j<l.length)->j<k->ix l[j]=true)(hn:(hj:k<l.length)->ix l[k]=true):
  ∀j,(hj:j<l.length)->j<k+1->ix l[j]=true:=by
 intro j hj m9;by_cases he:j=k
 .subst he;exact hn hj
 .exact h j hj (by omega)
theorem gN(s:ByteArray)(w:World)(hs:s.size<=20000):
  Calls prog 181 #[.string s] w λe w'=>e=.returned (.int .i64 (aP s.data.toList))/\w'=w:=by
 go_enter func181,ntmps181;go_wp2_with fail
 go_loop [3] (λn=>∃k:Nat,k<=s.size/\n=.int .i64 k/\∀j,(hj:j<s.data.toList.length)->j<k->ix s.data.toList[j]=true) (λn=>s.size-(intOf n).toNat)
 case atStart=>exact⟨0,zq5 _,rfl,λ_ _ h=>absurd h (by omega)⟩
 case round =>
  obtain⟨k,hk,rfl,jw⟩:=hrel;have HA:Hid (∀j,(hj:j<s.data.toList.length)->j<k->ix s.data.toList[j]=true):=jw;clear jw;by_cases ar:k<s.size
  .by_cases h1:gZ (s[k].toNat:Int)=true
   .go_wp2_with (first|(go_at_call 209;refine(jp _ _).mono ?_;rintro e w' ⟨rfl,rfl⟩)|(go_at_call 210;refine(jm _ _).mono ?_;rintro e w' ⟨rfl,rfl⟩))
    go_round
    case rel=>exact⟨k+1,by omega,by go_num,ph HA.out (λ_=>by simp[ix];exact zq0 h1)⟩
    case measure=>simp[intOf];omega
   .have h1f:gZ (s[k].toNat:Int)=false:=(by simpa using h1);clear h1;by_cases h2:kA (s[k].toNat:Int)=true
    .go_wp2_with (first|(go_at_call 209;refine(jp _ _).mono ?_;rintro e w' ⟨rfl,rfl⟩)|(go_at_call 210;refine(jm _ _).mono ?_;rintro e w' ⟨rfl,rfl⟩))
     go_round
     case rel=>exact⟨k+1,by omega,by go_num,ph HA.out (λ_=>by simp[ix];exact zq1 h2)⟩
     case measure=>simp[intOf];omega
    .have h2f:kA (s[k].toNat:Int)=false:=(by simpa using h2);clear h2;go_wp2_with (first|(go_at_call 209;refine(jp _ _).mono ?_;rintro e w' ⟨rfl,rfl⟩)|(go_at_call 210;refine(jm _ _).mono ?_;rintro e w' ⟨rfl,rfl⟩))
     go_ret;exact⟨bj (by rw[nk _ k HA.out (by simpa using hk) (λ_=>by simp[ix];exact⟨h1f,h2f⟩)]),rfl⟩
  .have hd:decide ((k:Int)<(s.size:Int))=false:=(by simp;omega);go_wp2_with fail
   go_ret;exact⟨bj (by rw[nk _ k HA.out (by simpa using hk) (λh=>absurd h (by simpa using ar))]),rfl⟩
def aC(l:List UInt8):Nat :=
 if 0<aP l then aP l else if l.take 2=[45,62]\/l.take 2=[33,61] then 2 else match l with|c::_=>if nA c.toNat then 1 else 0|[]=>0
theorem kZ(s:ByteArray)(k:Nat):(s.extract 0 k).toList=s.data.toList.take k:=by
 rw[Lib.extract_toList];simp
theorem YG{s:ByteArray}(h0:¬ 0<aP s.data.toList)(h:s.data.toList.take 2=[45,62]\/s.data.toList.take 2=[33,61]):aC s.data.toList=2:=by
 rw[aC.eq_def,if_neg h0,if_pos h]
theorem SJ{s:ByteArray}(h0:¬ 0<aP s.data.toList)(h:¬ (s.data.toList.take 2=[45,62]\/s.data.toList.take 2=[33,61]))(hp:0<s.size):
  aC s.data.toList=if nA (s[0].toNat:Int) then 1 else 0:=by
 rw[aC.eq_def,if_neg h0,if_neg h];obtain⟨⟨l⟩⟩:=s;match l,hp with
 |c::r,_=>rfl
theorem SH{s:ByteArray}(h0:¬ 0<aP s.data.toList)(h:¬ (s.data.toList.take 2=[45,62]\/s.data.toList.take 2=[33,61]))(hp:¬ 0<s.size):
  aC s.data.toList=0:=by
 rw[aC.eq_def,if_neg h0,if_neg h];obtain⟨⟨l⟩⟩:=s;match l,hp with
 |[],_=>rfl
 |_::_,hp=>exact absurd (by simp[ByteArray.size]) hp
theorem Dt(s:ByteArray)(w:World)(hs:s.size<=20000):
  Calls prog 157 #[.string s] w λe w'=>e=.returned (.int .i64 (aC s.data.toList))/\w'=w:=by
 have lm:=lU s.data.toList;by_cases h0:0<aP s.data.toList
 .go_enter func157,ntmps157;go_wp2_with (go_at_call 181;refine(gN _ _ hs).mono ?_;rintro e w' ⟨rfl,rfl⟩)
  go_ret;exact⟨bj (by simp[aC,h0]),rfl⟩
 .by_cases h2:s.data.toList.take 2=[45,62]\/s.data.toList.take 2=[33,61]
  .have hz:2<=s.size:=by
    rw[Lib.size_eq];have hl:=length_take_le' 2 s.data.toList;rcases h2 with e|e <;> rw[e]at hl <;> simpa using hl
   have HW:=ab (YG h0 h2);rw[<-kZ]at h2;by_cases h3:(s.extract 0 2).toList=[45,62]
   .clear h2;go_enter func157,ntmps157;go_wp2_with (go_at_call 181;refine(gN _ _ hs).mono ?_;rintro e w' ⟨rfl,rfl⟩)
    go_ret;exact⟨bj (by rw[uh HW];rfl),rfl⟩
   .have h4:=h2.resolve_left h3;clear h2;go_enter func157,ntmps157;go_wp2_with (go_at_call 181;refine(gN _ _ hs).mono ?_;rintro e w' ⟨rfl,rfl⟩)
    all_goals
     go_ret;exact⟨bj (by rw[uh HW];rfl),rfl⟩
  .by_cases hp:0<s.size
   .have HW:=ab (SJ h0 h2 hp);rw[<-kZ]at h2;have h3:((s.extract 0 2).toList==[45,62])=false:=(by simpa using λe=>h2 (zq0 e));have h4:((s.extract 0 2).toList==[33,61])=false:=(by simpa using λe=>h2 (zq1 e));clear h2;go_enter func157,ntmps157;go_wp2_with (first|(go_at_call 181;refine(gN _ _ hs).mono ?_;rintro e w' ⟨rfl,rfl⟩)|(go_at_call 182;refine(tz _ _).mono ?_;rintro e w' ⟨rfl,rfl⟩))
    all_goals
     go_ret;exact⟨bj (by rw[uh HW];simp[*]),rfl⟩
   .have HW:=ab (SH h0 h2 hp);clear h2;go_enter func157,ntmps157;go_wp2_with (first|(go_at_call 181;refine(gN _ _ hs).mono ?_;rintro e w' ⟨rfl,rfl⟩)|(go_at_call 182;refine(tz _ _).mono ?_;rintro e w' ⟨rfl,rfl⟩))
    go_ret;exact⟨bj (by rw[uh HW];rfl),rfl⟩
def eo:Nat->List UInt8->Option (List (List UInt8))
 |_,[]=>some []
 |0,_::_=>none
 |f+1,c::r=>if c=32\/c=10 then eo f r else if aC (c::r)=0 then none else (eo f ((c::r).drop (aC (c::r)))).map ((c::r).take (aC (c::r))::·)
def ij(l:List UInt8):Option (List (List UInt8)):=eo l.length l
theorem BF(f g:Nat)(l:List UInt8)(hf:l.length<=f)(hg:l.length<=g):eo f l=eo g l:=by
 induction f generalizing g l with
 |zero =>
  match l,hf with
  |[],_=>simp[eo]
 |succ f ih =>
  match l,g,hf,hg with
  |[],_,_,_=>simp[eo]
  |c::r,g+1,hf,hg =>
   simp only[eo];simp only[length_cons]at hf hg;split
   .exact ih g r (by omega) (by omega)
   .split
    .rfl
    .rw[ih g _ (by simp;omega) (by simp;omega)]
theorem pF:ij []=some []:=rfl
theorem iB(c:UInt8)(r:List UInt8)(h:c=32\/c=10):ij (c::r)=ij r:=by
 simp only[ij,length_cons,eo,if_pos h]
theorem mc(c:UInt8)(r:List UInt8)(h:¬ (c=32\/c=10))(h0:aC (c::r)=0):ij (c::r)=none:=by
 simp only[ij,length_cons,eo,if_neg h,if_pos h0]
theorem iY(c:UInt8)(r:List UInt8)(h:¬ (c=32\/c=10))(h0:aC (c::r)≠0):
  ij (c::r)=(ij ((c::r).drop (aC (c::r)))).map ((c::r).take (aC (c::r))::·):=by
 simp only[ij,length_cons,eo,if_neg h,if_neg h0];rw[BF _ _ _ (by simp;omega) (zq4 _)]
theorem kO(l:List UInt8):aC l<=l.length:=by
 rw[aC.eq_def];have:=lU l;split
 .exact this
 .split
  .rename_i h;have hl:=length_take_le' 2 l;rcases h with e|e <;> rw[e]at hl <;> simpa using hl
  .split
   .split <;> simp
   .simp
def xt(l:List UInt8)(k:Nat)(ws:List ByteArray):Prop:=ij l=(ij (l.drop k)).map (ws.map (·.data.toList)++·)
theorem xt.start(l:List UInt8):xt l 0 []:=by simp[xt]
theorem xt.blank{l:List UInt8}{k:Nat}{ws:List ByteArray}(h:xt l k ws)(hk:k<l.length)(hb:l[k]=32\/l[k]=10):xt l (k+1) ws:=by
 unfold xt at *;rw[h,drop_eq_getElem_cons hk,iB _ _ hb]
theorem xt.none{l:List UInt8}{k:Nat}{ws:List ByteArray}(h:xt l k ws)(hk:k<l.length)(hb:¬ (l[k]=32\/l[k]=10))(h0:aC (l.drop k)=0):ij l=.none:=by
 unfold xt at *;rw[drop_eq_getElem_cons hk]at h0 h;rw[h,mc _ _ hb h0];rfl
theorem xt.word {l:List UInt8} {k n:Nat} {ws:List ByteArray} {u:ByteArray} (h:xt l k ws) (hk:k<l.length) (hb:¬ (l[k]=32\/l[k]=10)) (hn:aC (l.drop k)=n) (h0:n≠0)
  (hu:u.data.toList=(l.drop k).take n):xt l (k+n) (ws++[u]):=by
 subst hn;unfold xt at *;rw[<-drop_drop];rw[drop_eq_getElem_cons hk]at h h0 hu ⊢;rw[h,iY _ _ hb h0,Option.map_map];congr 1;funext x;simp only[Function.comp,map_append,map_cons,map_nil,hu,append_assoc,singleton_append]
theorem xt.stop{l:List UInt8}{k:Nat}{ws:List ByteArray}(h:xt l k ws)(hk:l.length<=k):ij l=some (ws.map (·.data.toList)):=by
 unfold xt at *;rw[h,drop_eq_nil_of_le hk,pF];simp
theorem infoStr:(prog.info? 9).map (λi=>(i.zero,i.size,i.bytes))=some (some (.string ⟨#[]⟩),1,16):=by kernel_rfl
theorem Gx(c:UInt8)(n:Nat)(hn:n<256):(((c.toNat:Int)==(n:Int))=true)↔c=UInt8.ofNat n:=by
 rw[beq_iff_eq];constructor
 .intro h;have:c.toNat=n:=by omega
  rw[<-this];simp
 .rintro rfl;simp;omega
theorem yS(w:World)(x:Value)(T:TypeId):∀(j:Nat) (u:Value),[x][j]?=some u->(w.alloc (.cells #[x] T)).cell? ((⟨w.heap.size,0,none⟩:Addr).add j)=some u:=by
 intro j u hj;match j,hj with
 |0,hj=>simp at hj;subst hj;simp[Addr.add]
theorem Eq {W w' w1:World} {e:TypeId} {v v' x:Value} {n:Nat} {xs:List Value} {o:Obj} (aO:w'.ownsRow W.heap.size e 1 v n xs) (cn:Below W.heap.size W w')
  (wA:w1.ownsRow W.heap.size e 1 v' (n+1) (xs++[x])) (hg:(w'.alloc o).grownBy w1 v.ownBlock):w1.ownsRow W.heap.size e 1 v' (n+1) (xs++[x])/\Below W.heap.size W w1 :=
 ⟨wA,(cn.alloc cn.size o).grown hg (by have:=cn.size;simp;omega) (λk hk=>(aO.lt k hk).1)⟩
theorem D5(s:ByteArray)(w:World)(hs:s.size<=20000):
  Calls prog 119 #[.string s] w λe w'=>Below w.heap.size w w' /\
   ((ij s.data.toList=none/\e=.returned (.tuple #[.slice none 0 0,.bool false])) \/
    ∃(ws:List ByteArray) (v:Value),ij s.data.toList=some (ws.map (·.data.toList))/\w'.ownsRow w.heap.size 9 1 v ws.length (ws.map Value.string)/\e=.returned (.tuple #[v,.bool true])):=by
 obtain⟨i0,hi,fW,fy,fJ⟩:=info_parts infoStr;go_enter func119,ntmps119;go_wp2_with fail
 go_loopw [4,5] (λv i wr=>∃(k:Nat) (ws:List ByteArray),k<=s.size/\ws.length<=k/\i=.int .i64 k/\wr.ownsRow w.heap.size 9 1 v ws.length (ws.map Value.string)/\Below w.heap.size w wr/\Hid (xt s.data.toList k ws)) (λ_ i _=>s.size-(intOf i).toNat)
 case atStart=>exact⟨0,[],zq5 _,zq4 _,rfl,ownsRow_nil _ _ _ _,Below.refl _ _,xt.start _⟩
 case round =>
  obtain⟨k,ws,hk,hwk,rfl,aO,cn,LL⟩:=hrel;have lu:=cn.size;by_cases ar:k<s.size
  .by_cases h1:((s[k].toNat:Int)==32)=true
   .go_wp2_with fail
    go_roundw
    case rel=>exact⟨k+1,ws,by omega,by omega,by go_num,aO,cn,LL.out.blank (by rw[<-Lib.size_eq];exact ar) (zq0 ((Gx _ 32 (by omega)).1 h1))⟩
    case measure=>simp[intOf];omega
   .have h1f:((s[k].toNat:Int)==32)=false:=(by simpa using h1);by_cases h2:((s[k].toNat:Int)==10)=true
    .clear h1;go_wp2_with fail
     go_roundw
     case rel=>exact⟨k+1,ws,by omega,by omega,by go_num,aO,cn,LL.out.blank (by rw[<-Lib.size_eq];exact ar) (zq1 ((Gx _ 10 (by omega)).1 h2))⟩
     case measure=>simp[intOf];omega
    .have h2f:((s[k].toNat:Int)==10)=false:=(by simpa using h2);have HB:Hid (¬ (s.data.toList[k]'(by rw[<-Lib.size_eq];exact ar)=32\/s.data.toList[k]'(by rw[<-Lib.size_eq];exact ar)=10)):=by
      rintro(e|e)
      .exact h1 ((Gx _ 32 (by omega)).2 e)
      .exact h2 ((Gx _ 10 (by omega)).2 e)
     clear h1 h2;have hex:(s.extract k s.size).data.toList=s.data.toList.drop k:=by
      rw[Lib.extract_data];exact take_of_length_le (by rw[length_drop,<-Lib.size_eq];omega)
     have HEX:=ab hex;clear hex;have lm:=kO (s.extract k s.size).data.toList;rw[uh HEX,length_drop,<-Lib.size_eq]at lm;obtain⟨n,hn⟩:∃n,n=aC (s.extract k s.size).data.toList:=⟨_,rfl⟩;have HN:Hid (aC (s.data.toList.drop k)=n):=(by rw[<-uh HEX];exact hn.symm);rw[uh HN]at lm;have hc:=fun(wx:World)=>(Dt (s.extract k s.size) wx (by simp;omega))
     rw[<-hn]at hc;clear hn;have HC:=ab hc;clear hc;by_cases hz:n=0
     .subst hz;go_wp2_with (go_at_call 157;refine(uh HC _).mono ?_;rintro e w' ⟨rfl,rfl⟩)
      go_ret2;exact⟨cn,zq0 ⟨LL.out.none (by rw[<-Lib.size_eq];exact ar) HB.out HN.out,rfl⟩⟩
     .have hzf:((n:Int)==0)=false:=(by simpa using hz);have f7:k+n<=s.size:=(by omega);have hnp:0<n:=(by omega);clear hz lm;go_wp2_with (first|(go_at_call 157;refine(uh HC _).mono ?_;rintro e w' ⟨rfl,rfl⟩)|(at_builtin;refine wpList_append_own _ rfl _ _ 50 rfl w.heap.size 9 i0 (.string ⟨#[]⟩) 1 16 underlying50 hi fW fy fJ rfl (by decide) _ _ _ rfl (aO.alloc _) ⟨_,0,none⟩ 1 1 [.string (s.extract k (k+n))] rfl rfl ?c1 ?c2 ?c3 ?c4 ?c5 ?_))
      case c1=>exact yS _ _ _
      case c2=>intro u hu;simp at hu;subst hu;rfl
      case c3=>unfold maxLen;omega
      case c4=>omega
      case c5=>simp;omega
      intro v' w1 wA TL _;have R:=Eq aO cn wA TL;clear wA TL aO cn;go_wp2_with fail
      go_roundw
      case rel=>exact⟨k+n,ws++[s.extract k (k+n)],by omega,by simp;omega,by go_num,by simpa using R.1,R.2,LL.out.word (by rw[<-Lib.size_eq];exact ar) HB.out HN.out (by simpa using hzf) (by rw[Lib.extract_data];congr 1;omega)⟩
      case measure=>simp[intOf];omega
  .have hd:decide ((k:Int)<(s.size:Int))=false:=(by simp;omega);go_wp2_with fail
   go_ret2;exact⟨cn,zq1 ⟨ws,_,LL.out.stop (by rw[<-Lib.size_eq];omega),aO,rfl⟩⟩
def JJ(w:World)(v:Value)(ws:List ByteArray):Prop :=
 ∃ao cap,v=.slice ao ws.length cap/\ws.length<=cap/\cap<=maxLen/\(ws≠[]->∃g off,ao=some ⟨g,off,none⟩/\∀j,(h:j<ws.length)->w.cell? ⟨g,off+j,none⟩=some (.string ws[j]))
theorem JJ.of_own{w:World}{B:Nat}{v:Value}{ws:List ByteArray}(h:w.ownsRow B 9 1 v ws.length (ws.map Value.string)):JJ w v ws:=by
 have C7:=λg hg=>h.cells (g:=g) hg;rcases h.2 with⟨rfl,h0⟩|⟨g,cap,cur,rfl,_,_,hn,hm,_,_⟩
 .have:ws=[]:=eq_nil_of_length_eq_zero h0;subst this;exact⟨_,_,rfl,zq4 _,by simp,λh=>absurd rfl h⟩
 .refine⟨_,_,rfl,hn,hm,λ_=>⟨g,0,rfl,λj hj=>?_⟩⟩;have:=C7 g rfl j (.string ws[j]) (by simp[hj]);rw[show(⟨g,0,none⟩:Addr).add j=⟨g,0+j,none⟩ by unfold Addr.add;split <;> simp_all]at this;exact this
def jn:List ByteArray->List UInt8
 |[]=>[]
 |x::r=>x.data.toList++r.flatMap (λy=>32::y.data.toList)
theorem Q4(l:List ByteArray)(x:ByteArray)(h:l≠[]):jn (l++[x])=jn l++[32]++x.data.toList:=by
 match l,h with
 |y::r,_=>simp[jn]
theorem Dr(ws:List ByteArray)(k:Nat):(jn (ws.take k)).length<=(jn ws).length:=by
 match ws,k with
 |[],_=>simp[jn]
 |_::_,0=>simp[jn]
 |x::r,k+1 =>
  simp only[take_succ_cons,jn,length_append,length_flatMap];have:∀(r:List ByteArray) k,((r.take k).map λy=>(32::y.data.toList).length).sum<=(r.map λy=>(32::y.data.toList).length).sum:=by
   intro r;induction r with
   |nil=>simp
   |cons y r ih =>
    intro k;cases k with
    |zero=>simp
    |succ k=>simp only[take_succ_cons,map_cons,sum_cons];have:=ih k;omega
  have:=this r k;omega
theorem Q5(ws:List ByteArray)(k:Nat)(hk:k<ws.length)(h0:0<k):jn (ws.take (k+1))=jn (ws.take k)++[32]++ws[k].data.toList:=by
 rw[take_succ_eq_append_getElem hk,Q4 _ _ (ne_nil_of_length_pos (by rw[length_take];omega))]
theorem Mz(ws:List ByteArray)(k:Nat)(hk:k<ws.length)(h0:¬ 0<k):jn (ws.take (k+1))=jn (ws.take k)++ws[k].data.toList:=by
 obtain rfl:k=0:=by omega
 rw[take_succ_eq_append_getElem hk];simp[jn]
theorem bP(s:ByteArray):s.data.toList.length=s.size:=(Lib.size_eq s).symm
def bc(l:List UInt8):List Value:=l.map λb=>Value.int .u8 b.toNat
theorem vX(a b:List UInt8):bc (a++b)=bc a++bc b:=by simp[bc]
theorem qU(s:ByteArray):Lib.strCells s=bc s.data.toList:=rfl
theorem Er {W w' w1:World} {e:TypeId} {v v':Value} {n m:Nat} {xs ys:List Value} (aO:w'.ownsRow W.heap.size e 1 v n xs) (cn:Below W.heap.size W w')
  (wA:w1.ownsRow W.heap.size e 1 v' m ys) (hg:w'.grownBy w1 v.ownBlock):w1.ownsRow W.heap.size e 1 v' m ys/\Below W.heap.size W w1 :=
 ⟨wA,cn.grown hg cn.size (λk hk=>(aO.lt k hk).1)⟩
theorem gQ{w:World}{B:Nat}{e:TypeId}{s n m:Nat}{v:Value}{xs ys:List Value}(h:w.ownsRow B e s v n xs)(hn:m=n)(hx:ys=xs):w.ownsRow B e s v m ys:=by
 rw[hn,hx];exact h
theorem IC{w:World}{B:Nat}{e:TypeId}{s n:Nat}{v:Value}{xs:List Value}(h:w.ownsRow B e s v n xs):∃a l c,v=.slice a l c:=by
 rcases h.2 with⟨rfl,_⟩|⟨g,cap,cur,rfl,_⟩ <;> exact⟨_,_,_,rfl⟩
theorem Kf {P:Program} (src dst e:TypeId) (hs:P.underlying src=some (.slice e)) (he:P.underlying e=some (.int .u8)) (hd:P.underlying dst=some .string)
  {w:World} {B:Nat} {v:Value} {l:List UInt8} (h:w.ownsRow B e 1 v l.length (bc l)):(convert src dst v).run P w=.ok (.string ⟨l.toArray⟩) w:=by
 have C7:=λg hg=>h.cells (g:=g) hg;rcases h.2 with⟨rfl,h0⟩|⟨g,cap,cur,rfl,_,_,hn,hm,_,_⟩
 .have:l=[]:=eq_nil_of_length_eq_zero h0;subst this;exact run_convert_bytes_nil w src e hs he 0 0 dst hd
 .exact run_convert_bytes_back w src dst e ⟨g,0,none⟩ cap l hs he hd (λj hj=>C7 g rfl j _ (by simp[bc,hj]))
theorem infoByte:(prog.info? 5).map (λi=>(i.zero,i.size,i.bytes))=some (some (.int .u8 0),1,1):=by kernel_rfl
theorem MA(ws:List ByteArray)(v:Value)(w:World)(hv:JJ w v ws)(hl:ws.length<=20000)(hj:(jn ws).length<=20000):
  Calls prog 70 #[v] w λe w'=>Below w.heap.size w w'/\e=.returned (.string ⟨(jn ws).toArray⟩):=by
 obtain⟨i0,hi,fW,fy,fJ⟩:=info_parts infoByte;obtain⟨ao,cap,rfl,hn,hm,hc⟩:=hv;have HC:=ab hc;clear hc;unfold maxLen at hm;go_enter func70,ntmps70;go_wp2_with fail
 go_loopw [3,4] (λt i wr=>∃k:Nat,k<=ws.length/\i=.int .i64 k/\wr.ownsRow w.heap.size 5 1 t (jn (ws.take k)).length (bc (jn (ws.take k)))/\Below w.heap.size w wr) (λ_ i _=>ws.length-(intOf i).toNat)
 case atStart=>exact⟨0,zq5 _,rfl,ownsRow_nil _ _ _ _,Below.refl _ _⟩
 case round =>
  obtain⟨k,hk,rfl,aO,cn⟩:=hrel;have lu:=cn.size;by_cases ar:k<ws.length
  .obtain⟨g,off,qL,aw⟩:=uh HC (by intro h;rw[h]at ar;simp at ar);have uK:wr.cell? ⟨g,off+k,none⟩=some (.string ws[k]):=by
    rw[cn.cell (block_lt_of_cell? w _ (aw k ar))];exact aw k ar
   have hcw:=aw;have HCW:=ab hcw;clear aw hcw;rw[qL];have m9:=Dr ws (k+1);by_cases h0:0<k
   .have HJ:=ab (Q5 ws k ar h0);have lm:(jn (ws.take k)).length+1+ws[k].size<=20000:=by
     rw[uh HJ]at m9;simp only[length_append,bP,length_singleton]at m9;omega
    go_wp2_with (first|(at_builtin;refine wpList_append_own _ rfl (.tmp 13) (.tmp 14) 101 rfl w.heap.size 5 i0 (.int .u8 0) 1 1 underlying101 hi fW fy fJ rfl (by decide) _ _ _ rfl (aO.alloc _) ⟨_,0,none⟩ 1 1 [.int .u8 32] rfl rfl ?c1 ?c2 ?c3 ?c4 ?c5 ?_))
    case c1=>exact yS _ _ _
    case c2=>intro u hu;simp at hu;subst hu;rfl
    case c3=>unfold maxLen;omega
    case c4=>omega
    case c5=>simp;omega
    intro v1 w1 eE dg _;have R1:=Eq aO cn eE dg;have ahk:w1.cell? ⟨g,off+k,none⟩=some (.string ws[k]):=by
     rw[R1.2.cell (block_lt_of_cell? w _ (uh HCW k ar))];exact uh HCW k ar
    have aia:=R1.2.size;clear eE dg uK lu;go_wp2_with (at_builtin;refine Lib.wpList_append_own_string _ rfl (.tmp 16) (.tmp 20) 101 9 rfl w.heap.size 5 i0 underlying101 underlying9 hi fW fy fJ _ _ _ rfl R1.1 ws[k] rfl ?d1 ?d2 ?d3 ?_)
    case d1=>unfold maxLen;omega
    case d2=>omega
    case d3=>omega
    intro v2 w2 br aL _;have R2:=Er R1.1 R1.2 br aL;clear br aL R1 aO cn ahk;go_wp2_with fail
    go_roundw
    case rel=>exact⟨k+1,by omega,by go_num,by rw[uh HJ];exact gQ R2.1 (by simp only[length_append,bP,length_singleton]) (by simp only[qU,vX,append_assoc];rfl),R2.2⟩
    case measure=>simp[intOf];omega
   .have HJ:=ab (Mz ws k ar h0);have lm:(jn (ws.take k)).length+ws[k].size<=20000:=by
     rw[uh HJ]at m9;simp only[length_append,bP]at m9;omega
    go_wp2_with (at_builtin;refine Lib.wpList_append_own_string _ rfl _ _ 101 9 rfl w.heap.size 5 i0 underlying101 underlying9 hi fW fy fJ _ _ _ rfl aO ws[k] rfl ?d1 ?d2 ?d3 ?_)
    case d1=>unfold maxLen;omega
    case d2=>omega
    case d3=>omega
    intro v2 w2 br aL _;have R2:=Er aO cn br aL;clear br aL aO cn uK;go_wp2_with fail
    go_roundw
    case rel=>exact⟨k+1,by omega,by go_num,by rw[uh HJ];exact gQ R2.1 (by simp only[length_append,bP]) (by simp only[qU,vX]),R2.2⟩
    case measure=>simp[intOf];omega
  .have hd:decide ((k:Int)<(ws.length:Int))=false:=(by simp;omega);have jl:ws.take k=ws:=take_of_length_le (by omega);rw[jl]at aO;clear jl;have hcv:=Kf (P:=prog) 101 9 5 underlying101 underlying5 underlying9 aO;obtain⟨a1,l1,c1,hu⟩:=IC aO;rw[hu]at hcv ⊢;go_wp2_with fail
   go_ret;exact⟨cn,rfl⟩
structure Nd where
 op:Nat
 v:Nat
 ak:Nat
 ai:Nat
 nx:Nat
 ot:Nat
def Nd.cells(n:Nd):List Value:=[.int .i64 n.op,.int .i64 n.v,.int .i64 n.ak,.int .i64 n.ai,.int .i64 n.nx,.int .i64 n.ot]
def bi(l:List Nd):List Value:=l.flatMap Nd.cells
structure PS where
 pos:Nat
 failed:Bool
 vars:List UInt8
 hid:List UInt8
 nodes:List Nd
structure aq(F:List Nat)(w:World)(F':List Nat)(w':World):Prop where
 os:w'.os=w.os
 tape:w'.tape=w.tape
 output:w'.output=w.output
 size:w.heap.size<=w'.heap.size
 block:∀k,k<w.heap.size->k ∉ F->w'.heap[k]?=w.heap[k]?
 foot:∀k,k∈F'->k∈F\/w.heap.size<=k
theorem aq.refl(F:List Nat)(w:World):aq F w F w:=⟨rfl,rfl,rfl,zq4 _,λ_ _ _=>rfl,λ_ h=>zq0 h⟩
theorem aq.trans{F F' F'':List Nat}{a b c:World}(h:aq F a F' b)(k:aq F' b F'' c):aq F a F'' c :=
 ⟨k.os.trans h.os,k.tape.trans h.tape,k.output.trans h.output,zq3 h.size k.size,
  λi hi hF=>(k.block i (zq6 hi h.size) (λhm=>by rcases h.foot i hm with h1|h1;exact hF h1;omega)).trans (h.block i hi hF),
  λi hm=>by rcases k.foot i hm with h1|h1;exact h.foot i h1;exact zq1 (zq3 h.size h1)⟩
theorem aq.drew{F F':List Nat}{a w:World}(h:aq F a F' w):aq F a F' w.drew:=⟨h.os,h.tape,h.output,h.size,h.block,h.foot⟩
theorem aq.drewN{F F':List Nat}{a w:World}(h:aq F a F' w)(n:Nat):aq F a F' (w.drewN n):=⟨h.os,h.tape,h.output,h.size,h.block,h.foot⟩
theorem aq.alloc{F F':List Nat}{a w:World}(h:aq F a F' w)(o:Obj):aq F a F' (w.alloc o) :=
 ⟨h.os,h.tape,h.output,by have:=h.size;simp;omega,λk hk hF=>by rw[heap_alloc _ _ _ (zq6 hk h.size)];exact h.block k hk hF,h.foot⟩
theorem aq.setCell{F F':List Nat}{a w:World}(h:aq F a F' w){p:Addr}(hp:p.block∈F\/a.heap.size<=p.block)(u:Value):aq F a F' (w.setCell p u) :=
 ⟨h.os,h.tape,h.output,by simpa[World.setCell] using h.size,λk hk hF=>by
  rw[heap_setCell _ _ _ _ (by rintro rfl;rcases hp with hp|hp;exact hF hp;omega)];exact h.block k hk hF,h.foot⟩
theorem aq.grown{F F':List Nat}{a w w':World}{row:Option Nat}(h:aq F a F' w)(hg:w.grownBy w' row)(hr:∀k,row=some k->k∈F\/a.heap.size<=k):aq F a F' w' :=
 ⟨hg.os.trans h.os,hg.tape.trans h.tape,hg.output.trans h.output,zq3 h.size hg.size,λk hk hF=>by
  rw[hg.block k (zq6 hk h.size) (λe=>by rcases hr k e.symm with h1|h1;exact hF h1;omega)];exact h.block k hk hF,h.foot⟩
theorem aq.below{F F':List Nat}{w w':World}{B:Nat}(h:aq F w F' w')(hB:B<=w.heap.size)(hF:∀k∈F,B<=k):Below B w w' :=
 ⟨h.os,h.tape,h.output,h.size,λk hk=>h.block k (zq6 hk hB) (λhm=>by have:=hF k hm;omega)⟩
def kk(B:Nat)(WV:Value)(w:World)(P:Nat)(ws:List ByteArray)(s:PS)(F:List Nat):Prop :=
 ∃wv vv hv nv:Value,
  w.heap[P]?=some (.cells #[wv,.int .i64 s.pos,.bool s.failed,vv,hv,nv] 133 (0,0))/\(B<=P/\wv=WV) /\
  w.ownsRow B 9 1 wv ws.length (ws.map Value.string) /\
  w.ownsRow B 5 1 vv s.vars.length (bc s.vars) /\
  w.ownsRow B 5 1 hv s.hid.length (bc s.hid) /\
  w.ownsRow B 186 6 nv s.nodes.length (bi s.nodes) /\
  F=P::(wv.ownBlock.toList++(vv.ownBlock.toList++(hv.ownBlock.toList++nv.ownBlock.toList)))/\F.Nodup
theorem ae{w w':World}{B:Nat}{e:TypeId}{sz n:Nat}{v:Value}{xs:List Value}(h:w.ownsRow B e sz v n xs)(hb:∀k,v.ownBlock=some k->w'.heap[k]?=w.heap[k]?):w'.ownsRow B e sz v n xs:=by
 refine⟨h.1,?_⟩;rcases h.2 with hn|⟨g,cap,cur,rfl,hB,hg,rest⟩
 .exact .inl hn
 .exact .inr ⟨g,cap,cur,rfl,hB,by rw[hb g rfl];exact hg,rest⟩
theorem kk.mem{B:Nat}{WV:Value}{w:World}{P:Nat}{ws:List ByteArray}{s:PS}{F:List Nat}(h:kk B WV w P ws s F):∀k∈F,B<=k/\k<w.heap.size:=by
 obtain⟨wv,vv,hv,nv,hP,hB,h1,h2,h3,h4,rfl,_⟩:=h;intro k hk;simp only[mem_cons,mem_append,Option.mem_toList]at hk;rcases hk with rfl|hk|hk|hk|hk
 .exact⟨hB.1,(Array.getElem?_eq_some_iff.1 hP).1⟩
 .exact h1.lt k hk
 .exact h2.lt k hk
 .exact h3.lt k hk
 .exact h4.lt k hk
theorem kk.memP{B:Nat}{WV:Value}{w:World}{P:Nat}{ws:List ByteArray}{s:PS}{F:List Nat}(h:kk B WV w P ws s F):P∈F:=by
 obtain⟨wv,vv,hv,nv,hP,hB,h1,h2,h3,h4,rfl,_⟩:=h;simp
theorem kk.of_eq{B:Nat}{WV:Value}{w w':World}{P:Nat}{ws:List ByteArray}{s:PS}{F:List Nat}(h:kk B WV w P ws s F)(he:∀k∈F,w'.heap[k]?=w.heap[k]?):kk B WV w' P ws s F:=by
 obtain⟨wv,vv,hv,nv,hP,hB,h1,h2,h3,h4,hF,hN⟩:=h;have hm:∀k,k=P\/wv.ownBlock=some k\/vv.ownBlock=some k\/hv.ownBlock=some k\/nv.ownBlock=some k->k∈F:=by
  intro k hk;rw[hF];simpa using hk
 exact⟨wv,vv,hv,nv,by rw[he P (hm P (by simp))];exact hP,hB,ae h1 (λk hk=>he k (hm k (by simp[hk]))),ae h2 (λk hk=>he k (hm k (by simp[hk]))),
  ae h3 (λk hk=>he k (hm k (by simp[hk]))),ae h4 (λk hk=>he k (hm k (by simp[hk]))),hF,hN⟩
theorem kk.drewN{B:Nat}{WV:Value}{w:World}{P:Nat}{ws:List ByteArray}{s:PS}{F:List Nat}(h:kk B WV w P ws s F)(n:Nat):kk B WV (w.drewN n) P ws s F :=
 h.of_eq (λ_ _=>by simp)
theorem kk.drew{B:Nat}{WV:Value}{w:World}{P:Nat}{ws:List ByteArray}{s:PS}{F:List Nat}(h:kk B WV w P ws s F):kk B WV w.drew P ws s F:=h.of_eq (λ_ _=>rfl)
theorem kk.alloc{B:Nat}{WV:Value}{w:World}{P:Nat}{ws:List ByteArray}{s:PS}{F:List Nat}(h:kk B WV w P ws s F)(o:Obj):kk B WV (w.alloc o) P ws s F :=
 h.of_eq (λk hk=>heap_alloc _ _ _ (h.mem k hk).2)
theorem kk.setOther{B:Nat}{WV:Value}{w:World}{P:Nat}{ws:List ByteArray}{s:PS}{F:List Nat}(h:kk B WV w P ws s F){p:Addr}(hp:p.block ∉ F)(u:Value):kk B WV (w.setCell p u) P ws s F :=
 h.of_eq (λk hk=>heap_setCell _ _ _ _ (by rintro rfl;exact hp hk))
theorem iG{w:World}{P:Nat}{a b c d e f:Value}{t:TypeId}(h:w.heap[P]?=some (.cells #[a,b,c,d,e,f] t (0,0))):
  (w.cell? ⟨P,0,none⟩=some a/\w.cell? ⟨P,1,none⟩=some b/\w.cell? ⟨P,2,none⟩=some c/\w.cell? ⟨P,3,none⟩=some d/\w.cell? ⟨P,4,none⟩=some e/\w.cell? ⟨P,5,none⟩=some f) /\
  ∀j,w.frozen? ⟨P,j,none⟩=false:=by
 refine⟨⟨?_,?_,?_,?_,?_,?_⟩,λj=>?_⟩
 all_goals simp[World.cell?,World.frozen?,h]
def pk(ws:List ByteArray)(s:PS):ByteArray:=if s.failed=true then ⟨#[]⟩ else ws[s.pos]?.getD ⟨#[]⟩
def bH(ws:List ByteArray)(k:ByteArray)(s:PS):Bool:=(pk ws s).toList==k.toList
def PS.adv(s:PS):PS:={ s with pos:=s.pos+1 }
def PS.fail(s:PS):PS:={ s with failed:=true }
def kq(ws:List ByteArray)(k:ByteArray)(s:PS):PS:=if bH ws k s then s.adv else s
def aF(ws:List ByteArray)(k:ByteArray)(s:PS):PS:=if bH ws k s then s.adv else s.fail
theorem jX{ws:List ByteArray}{s:PS}(h:s.failed=true):pk ws s=⟨#[]⟩:=if_pos h
theorem DF{ws:List ByteArray}{s:PS}(h:ws.length<=s.pos):pk ws s=⟨#[]⟩:=by
 unfold pk;split
 .rfl
 .rw[getElem?_eq_none h];rfl
theorem adG{ws:List ByteArray}{s:PS}(h:s.failed=false)(hp:s.pos<ws.length):pk ws s=ws[s.pos]:=by
 unfold pk;rw[if_neg (by simp[h]),getElem?_eq_getElem hp];rfl
theorem Vn(w:World)(a b:Nat):(w.drewN a).drewN b=w.drewN (a+b):=by simp[World.drewN,Nat.add_assoc]
def BM(ws:List ByteArray)(s:PS):Prop:=ws.length<=240/\s.pos<=ws.length/\s.vars.length<=240+s.pos/\s.hid.length<=s.pos
theorem BM.adv{ws:List ByteArray}{s:PS}(h:BM ws s)(hp:s.pos<ws.length):BM ws s.adv:=by
 obtain⟨a,b,c,d⟩:=h;simp only[BM,PS.adv];omega
theorem wS{ws:List ByteArray}{s:PS}(h:(pk ws s).size≠0):s.failed=false/\s.pos<ws.length:=by
 by_cases hp:s.pos<ws.length
 .refine⟨?_,hp⟩;cases hf:s.failed with
  |false=>rfl
  |true=>rw[jX hf]at h;exact absurd rfl h
 .rw[DF (by omega)]at h;exact absurd rfl h
theorem ip{a b:ByteArray}(h:(a.toList==b.toList)=true):a=b:=by
 rw[ByteArray.toList_eq,ByteArray.toList_eq]at h;obtain⟨⟨x⟩⟩:=a;obtain⟨⟨y⟩⟩:=b;have:x=y:=by simpa using h
 rw[this]
theorem JK{ws:List ByteArray}{k:ByteArray}{s:PS}(hk:k.size≠0)(h:bH ws k s=true):s.pos<ws.length:=by
 have:=ip h;exact(wS (by rw[this];exact hk)).2
structure d9(B:Nat)(WV:Value)(w:World)(P:Nat)(ws:List ByteArray)(s:PS)(F:List Nat):Prop where
 m:kk B WV w P ws s F
 f:BM ws s
section
variable {B:Nat} {WV:Value} {w:World} {P:Nat} {ws:List ByteArray} {s:PS} {F:List Nat}
theorem jW(h:d9 B WV w P ws s F):
  Calls prog 160 #[.pointer (some ⟨P,0,none⟩)] w λe w'=>e=.returned (.string (pk ws s))/\∃n,w'=w.drewN n:=by
 obtain⟨⟨wv,vv,hv,nv,hP,hB,h1,h2,h3,h4,hF,hN⟩,C9⟩:=h;obtain⟨hl,hp,_,_⟩:=C9;obtain⟨⟨c0,c1,c2,_,_,_⟩,fz⟩:=iG hP;clear h2 h3 h4 hF hN hB hP fz;obtain⟨ao,cap,rfl,hn,hm,hc⟩:=JJ.of_own h1;have HC:=ab hc;clear hc h1;unfold maxLen at hm;cases hf:s.failed with
 |true =>
  rw[jX hf];rw[hf]at c2;clear hf;go_enter func160,ntmps160;go_wp2_with fail
  go_quiet (fail)
  go_wp2_with fail
  go_ret;exact⟨rfl,_,rfl⟩
 |false =>
  rw[hf]at c2;by_cases ar:s.pos<ws.length
  .obtain⟨g,off,qL,aw⟩:=uh HC (by intro h;rw[h]at ar;simp at ar);have uK:=aw s.pos ar;rw[adG hf ar];have hd:decide ((ws.length:Int)<=(s.pos:Int))=false:=(by simp;omega);clear aw hf;rw[qL]at c0;go_enter func160,ntmps160;go_wp2_with fail
   go_quiet (fail)
   go_wp2_with fail
   go_quiet (fail)
   go_wp2_with fail
   go_ret;exact⟨rfl,_,Vn _ _ _⟩
  .rw[DF (by omega)];have hd:decide ((ws.length:Int)<=(s.pos:Int))=true:=(by simp;omega);clear hf;go_enter func160,ntmps160;go_wp2_with fail
   go_quiet (fail)
   go_wp2_with fail
   go_ret;exact⟨rfl,_,rfl⟩
theorem vH{w:World}{P:Nat}{xs:Array Value}{t:TypeId}{j:Nat}(h:w.heap[P]?=some (.cells xs t (0,0)))(u:Value):
  (w.setCell ⟨P,j,none⟩ u).heap[P]?=some (.cells (xs.setIfInBounds j u) t (0,0)):=by
 simp[World.setCell,Array.getElem?_modify,h]
theorem kk.setPos(h:kk B WV w P ws s F)(n:Nat):kk B WV (w.setCell ⟨P,1,none⟩ (.int .i64 n)) P ws { s with pos:=n } F:=by
 obtain⟨wv,vv,hv,nv,hP,hB,h1,h2,h3,h4,hF,hN⟩:=h;have aY:∀k,wv.ownBlock=some k\/vv.ownBlock=some k\/hv.ownBlock=some k\/nv.ownBlock=some k->k≠P:=by
  rw[hF]at hN;rintro k hk rfl;exact(nodup_cons.1 hN).1 (by simpa using hk)
 have hk:∀k,wv.ownBlock=some k\/vv.ownBlock=some k\/hv.ownBlock=some k\/nv.ownBlock=some k->(w.setCell ⟨P,1,none⟩ (.int .i64 n)).heap[k]?=w.heap[k]? :=
  λk hk=>heap_setCell _ _ _ _ (aY k hk)
 exact⟨wv,vv,hv,nv,vH hP _,hB,ae h1 (λk h=>hk k (by simp[h])),ae h2 (λk h=>hk k (by simp[h])),ae h3 (λk h=>hk k (by simp[h])),ae h4 (λk h=>hk k (by simp[h])),hF,hN⟩
theorem kk.setFailed(h:kk B WV w P ws s F)(b:Bool):kk B WV (w.setCell ⟨P,2,none⟩ (.bool b)) P ws { s with failed:=b } F:=by
 obtain⟨wv,vv,hv,nv,hP,hB,h1,h2,h3,h4,hF,hN⟩:=h;have aY:∀k,wv.ownBlock=some k\/vv.ownBlock=some k\/hv.ownBlock=some k\/nv.ownBlock=some k->k≠P:=by
  rw[hF]at hN;rintro k hk rfl;exact(nodup_cons.1 hN).1 (by simpa using hk)
 have hk:∀k,wv.ownBlock=some k\/vv.ownBlock=some k\/hv.ownBlock=some k\/nv.ownBlock=some k->(w.setCell ⟨P,2,none⟩ (.bool b)).heap[k]?=w.heap[k]? :=
  λk hk=>heap_setCell _ _ _ _ (aY k hk)
 exact⟨wv,vv,hv,nv,vH hP _,hB,ae h1 (λk h=>hk k (by simp[h])),ae h2 (λk h=>hk k (by simp[h])),ae h3 (λk h=>hk k (by simp[h])),ae h4 (λk h=>hk k (by simp[h])),hF,hN⟩
theorem kk.reads(h:kk B WV w P ws s F):w.cell? ⟨P,1,none⟩=some (.int .i64 s.pos)/\w.cell? ⟨P,2,none⟩=some (.bool s.failed)/\w.frozen? ⟨P,1,none⟩=false/\w.frozen? ⟨P,2,none⟩=false:=by
 obtain⟨wv,vv,hv,nv,hP,_⟩:=h;obtain⟨⟨c0,c1,c2,_,_,_⟩,fz⟩:=iG hP;exact⟨c1,c2,fz 1,fz 2⟩
theorem az(k:ByteArray)(hk:k.size≠0)(h:d9 B WV w P ws s F):
  Calls prog 158 #[.pointer (some ⟨P,0,none⟩),.string k] w λe w'=>e=.returned (.bool (bH ws k s))/\d9 B WV w' P ws (kq ws k s) F/\aq F w F w':=by
 have HP:=ab h;cases hb:bH ws k s with
 |true =>
  have uI:((pk ws s).toList==k.toList)=true:=hb;have HS:Hid (kq ws k s=s.adv):=if_pos hb;clear hb;obtain⟨c1,c2,f1,f2⟩:=h.m.reads;obtain⟨hl,hp,_,_⟩:=h.f;clear h c2 f2;go_enter func158,ntmps158;go_wp2_with (go_at_call 160;refine(jW (uh HP)).mono ?_;rintro e w' ⟨rfl,n,rfl⟩)
  go_ret;exact⟨rfl,by rw[uh HS];exact⟨((uh HP).m.drewN n).setPos _,(uh HP).f.adv (JK hk uI)⟩,((aq.refl F w).drewN n).setCell (zq0 (uh HP).m.memP) _⟩
 |false =>
  have uI:((pk ws s).toList==k.toList)=false:=hb;have HS:Hid (kq ws k s=s):=if_neg (by simp[hb]);clear hb h;go_enter func158,ntmps158;go_wp2_with (go_at_call 160;refine(jW (uh HP)).mono ?_;rintro e w' ⟨rfl,n,rfl⟩)
  go_ret;exact⟨rfl,by rw[uh HS];exact⟨(uh HP).m.drewN n,(uh HP).f⟩,(aq.refl F w).drewN n⟩
theorem aX(k:ByteArray)(hk:k.size≠0)(h:d9 B WV w P ws s F):
  Calls prog 120 #[.pointer (some ⟨P,0,none⟩),.string k] w λe w'=>e=.returned (.tuple #[])/\d9 B WV w' P ws (aF ws k s) F/\aq F w F w':=by
 have HP:=ab h;clear h;have HA:=ab (az k hk (uh HP));cases hb:bH ws k s with
 |true =>
  have HS:Hid (kq ws k s=aF ws k s):=ab (by unfold kq aF;rw[if_pos hb,if_pos hb]);rw[hb]at HA;clear hb;go_enter func120,ntmps120;go_wp2_with (go_at_call 158;refine(uh HA).mono ?_;rintro e w' ⟨rfl,hI,hS⟩)
  go_end0
  exact⟨rfl,by rw[<-uh HS];exact hI,hS⟩
 |false =>
  have HS:Hid (aF ws k s=(kq ws k s).fail):=ab (by unfold kq aF;rw[if_neg (by simp[hb]),if_neg (by simp[hb])]);rw[hb]at HA;clear hb;go_enter func120,ntmps120;go_wp2_with (go_at_call 158;refine(uh HA).mono ?_;rintro e w' ⟨rfl,hI,hS⟩;obtain⟨c1,c2,f1,f2⟩:=hI.m.reads;have HI:=ab hI;clear hI)
  go_end0
  exact⟨rfl,by rw[uh HS];exact⟨(uh HI).m.setFailed true,(uh HI).f⟩,hS.setCell (zq0 (uh HI).m.memP) _⟩
end
def plc:List UInt8->UInt8->Nat
 |[],_=>0
 |x::r,c=>if x=c then 0 else plc r c+1
theorem tV(l:List UInt8)(c:UInt8):plc l c<=l.length:=by
 induction l with
 |nil=>simp[plc]
 |cons x r ih=>simp only[plc];split <;> simp <;> omega
theorem RR(l:List UInt8)(c:UInt8)(k:Nat)(hk:k<l.length)(hn:∀j,(hj:j<l.length)->j<k->l[j]≠c)(h:l[k]=c):plc l c=k:=by
 induction l generalizing k with
 |nil=>simp at hk
 |cons x r ih =>
  cases k with
  |zero=>simp only[getElem_cons_zero]at h;simp[plc,h]
  |succ k =>
   have h0:x≠c:=hn 0 (by simp) (by omega);simp only[plc,if_neg h0];rw[ih k (by simpa using hk) (λj hj m9=>hn (j+1) (by simpa using hj) (by omega)) (by simpa using h)]
theorem Np(l:List UInt8)(c:UInt8)(hn:∀j,(hj:j<l.length)->l[j]≠c):plc l c=l.length:=by
 induction l with
 |nil=>rfl
 |cons x r ih =>
  have h0:x≠c:=hn 0 (by simp);simp only[plc,if_neg h0,length_cons];rw[ih (λj hj=>hn (j+1) (by simpa using hj))]
theorem ku{w:World}{B:Nat}{v:Value}{l:List UInt8}(h:w.ownsRow B 5 1 v l.length (bc l)):
  ∃ao cap,v=.slice ao l.length cap/\cap<=maxLen/\(l≠[]->∃g,ao=some ⟨g,0,none⟩/\∀j,(h:j<l.length)->w.cell? ⟨g,j,none⟩=some (.int .u8 (l[j].toNat:Int))):=by
 have C7:=λg hg=>h.cells (g:=g) hg;rcases h.2 with⟨rfl,h0⟩|⟨g,cap,cur,rfl,_,_,hn,hm,_,_⟩
 .have:l=[]:=eq_nil_of_length_eq_zero h0;subst this;exact⟨_,_,rfl,by simp,λh=>absurd rfl h⟩
 .refine⟨_,_,rfl,hm,λ_=>⟨g,rfl,λj hj=>?_⟩⟩;have:=C7 g rfl j (.int .u8 (l[j].toNat:Int)) (by simp[bc,hj]);rw[show(⟨g,0,none⟩:Addr).add j=⟨g,j,none⟩ by unfold Addr.add;split <;> simp_all]at this;exact this
theorem Oc(a c:UInt8):((a.toNat:Int)==(c.toNat:Int))=true↔a=c:=by
 rw[beq_iff_eq];constructor
 .intro h;apply UInt8.toNat.inj;omega
 .rintro rfl;rfl
theorem IJ{B:Nat}{w:World}{v:Value}{l:List UInt8}(c:UInt8)(h:w.ownsRow B 5 1 v l.length (bc l))(hl:l.length<=20000):
  Calls prog 212 #[v,.int .u8 (c.toNat:Int)] w λe w'=>e=.returned (.int .i64 (plc l c))/\w'=w:=by
 obtain⟨ao,cap,rfl,hm,hc⟩:=ku h;have HC:=ab hc;clear hc h;unfold maxLen at hm;go_enter func212,ntmps212;go_wp2_with fail
 go_loop [5] (λi=>∃k:Nat,k<=l.length/\i=.int .i64 k/\Hid (∀j,(hj:j<l.length)->j<k->l[j]≠c)) (λi=>l.length-(intOf i).toNat)
 case atStart=>exact⟨0,zq5 _,rfl,λ_ _ h=>absurd h (by omega)⟩
 case round =>
  obtain⟨k,hk,rfl,jw⟩:=hrel;by_cases ar:k<l.length
  .obtain⟨g,qL,aw⟩:=uh HC (by intro h;rw[h]at ar;simp at ar);have uK:=aw k ar;clear aw;rw[qL];cases he:((l[k].toNat:Int)==(c.toNat:Int)) with
   |true =>
    go_wp2_with fail
    go_ret;exact⟨bj (by rw[RR l c k ar jw.out ((Oc _ _).1 he)]),rfl⟩
   |false =>
    go_wp2_with fail
    go_round
    case rel =>
     refine⟨k+1,by omega,by go_num,λj hj m9=>?_⟩;by_cases Wy:j=k
     .subst Wy;intro e;rw[(Oc _ _).2 e]at he;cases he
     .exact jw.out j hj (by omega)
    case measure=>simp[intOf];omega
  .have hd:decide ((k:Int)<(l.length:Int))=false:=(by simp;omega);go_wp2_with fail
   go_ret;exact⟨bj (by rw[Np l c (λj hj=>jw.out j hj (by omega))]),rfl⟩
section
variable {P:Program} (w:World)
theorem By (base:Nat) (t ty e:TypeId) (i:TypeInfo) (z:Value) (size bytes:Nat) (ht:P.underlying t=some (.slice e)) (hi:P.info? e=some i) (hz:i.zero=some z)
  (iP:i.size=size) (C5:i.bytes=bytes) (Iq:z.cells.size=size) (lu:0<size)
  (v:Value) (n:Nat) (xs:List Value) (aO:w.ownsRow base e size v n xs)
  (a:Addr) (c:Nat) (news:List Value) (hl:news.length=size) (gF:∀j u,news[j]?=some u->w.cell? (a.add j)=some u) (h1:∀u∈news,u.oneCell'=true)
  (Hg:n+1<=1000000) (hb:bytes<=1000) (fH:base<=w.heap.size) :
  ∃v' w',(Builtin.append_ #[t,t] ty #[v,.slice (some a) 1 c]).run P w=.ok v' w'/\w'.ownsRow base e size v' (n+1) (xs++news)/\w.grownBy w' v.ownBlock /\
   (v'.ownBlock=v.ownBlock\/v'.ownBlock=some w.heap.size)/\∃g cap,v'=.slice (some ⟨g,0,none⟩) (n+1) cap:=by
 have hbytes:(n+1)*bytes<=140737488355328:=zq3 (Nat.mul_le_mul Hg hb) (by decide);obtain⟨v',w',hr,ho,hg,_⟩:=run_append_own (P:=P) w base t ty e i z size bytes ht hi hz iP C5 Iq lu v n xs aO a 1 c news (by omega) gF h1 (by unfold maxLen;omega) hbytes fH;refine⟨v',w',hr,ho,hg,?_,?_⟩
 .subst iP;subst C5;rcases aO.2 with⟨rfl,rfl⟩|⟨g,cap,cur,rfl,pQ,QJ,Jj,rg,C7,Mq⟩
  .have ja:=run_append_nil (P:=P) w t ty e i z ht hi hz a 1 c news (by omega) gF (by omega) (by omega) (by omega);rw[hr]at ja;injection ja with e1 e2;subst e1;exact zq1 rfl
  .by_cases AP:n+1<=cap
   .have C9:n*i.size+news.length<=cur.size:=by
     rw[hl,C7];have:=Nat.mul_le_mul_right i.size AP;rw[Nat.add_mul]at this;omega
    have ja:=run_append_room (P:=P) w t ty e i ht hi g n cap cur QJ a 1 c news (by omega) gF h1 AP C9;rw[hr]at ja;injection ja with e1 e2;subst e1;exact zq0 rfl
   .have holds:∀j u,xs[j]?=some u->w.cell? ((⟨g,0,none⟩:Addr).add j)=some u:=aO.cells (g:=g) rfl;have ja:=run_append_grow (P:=P) w t ty e i z ht hi hz ⟨g,0,none⟩ n cap xs aO.1 holds a 1 c news (by omega) gF (by omega) (by omega) (growslice_fits (by omega) hbytes);rw[hr]at ja;injection ja with e1 e2;subst e1;exact zq1 rfl
 .rcases ho.2 with⟨_,h⟩|⟨g,cap,_,h,_⟩
  .omega
  .exact⟨g,cap,h⟩
theorem iC {ops:Array Oper} {o:Oper} {a:Act} {K:Act->World->Prop} {Q:Exit->Act->World->Prop} {E:Prop}
  (hg:o.guard=none) (s x:Operand) (t:TypeId) (ng:o.op=Op.call { callee:=Callee.builtin Builtin.append,args:=#[s,x],argTypes:=#[t,t] })
  (base:Nat) (e:TypeId) (i:TypeInfo) (z:Value) (size bytes:Nat) (ht:P.underlying t=some (.slice e)) (hi:P.info? e=some i) (hz:i.zero=some z)
  (iP:i.size=size) (C5:i.bytes=bytes) (Iq:z.cells.size=size) (lu:0<size)
  (v:Value) (n:Nat) (xs:List Value) (hs:a.eval s=v) (aO:w.ownsRow base e size v n xs)
  (ad:Addr) (c:Nat) (news:List Value) (hx:a.eval x=.slice (some ad) 1 c) (hl:news.length=size) (gF:∀j u,news[j]?=some u->w.cell? (ad.add j)=some u) (h1:∀u∈news,u.oneCell'=true)
  (Hg:n+1<=1000000) (hb:bytes<=1000) (fH:base<=w.heap.size)
  (hK:∀g cap w',w'.ownsRow base e size (.slice (some ⟨g,0,none⟩) (n+1) cap) (n+1) (xs++news)->w.grownBy w' v.ownBlock->(some g=v.ownBlock\/g=w.heap.size)->K (a.put o.dst (.slice (some ⟨g,0,none⟩) (n+1) cap)) w') :
  if Region.wanted o (yielded ops a.tmps)=true then Oper.wp P o a w K Q else E:=by
 have hw:Region.wanted o (yielded ops a.tmps)=true:=by simp[Region.wanted,hg]
 rw[if_pos hw];obtain⟨v',w',Dm,r1,r2,r3,g,cap,rfl⟩:=By (P:=P) w base t o.type e i z size bytes ht hi hz iP C5 Iq lu v n xs aO ad c news hl gF h1 Hg hb fH;unfold Oper.wp;simp[execOp,ng,resolve,invoke,builtin,hs,hx,Dm,Result.andThen];exact hK g cap w' r1 r2 (by simpa[Value.ownBlock] using r3)
end
