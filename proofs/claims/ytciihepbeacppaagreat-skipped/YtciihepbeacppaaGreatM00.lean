import Derived.Test.YtciihepbeacppaaGreatProg
import Derived.WalkKit
import Derived.WalkLawsBesides
import Derived.WalkSpells
import Derived.Lib.Strings
import Derived.Laws.BytesArg
import Derived.Laws.IdiomStrings
import Derived.Lib.AppendStr
import Derived.BigQuiet
import Derived.Deep.QuietTactic
import Derived.Deep.RegionLaw
set_option maxRecDepth 100000
set_option maxHeartbeats 0
namespace Go.Proofs.YtciihepbeacppaaGreat
open Tryz Go.RowKit List World Below
set_option linter.unusedVariables false
theorem zq0{a b:Prop}(h:a):a\/b:=Or.inl h
theorem zq1{a b:Prop}(h:b):a\/b:=Or.inr h
theorem zq2{a b:Prop}(h:a)(g:b):a/\b:=⟨h,g⟩
theorem zq3{a b c:Nat}(h:a<=b)(g:b<=c):a<=c:=Nat.le_trans h g
theorem zq4(a:Nat):a<=a:=Nat.le_refl a
theorem zq5(a:Nat):0<=a:=Nat.zero_le a
theorem zq6{a b c:Nat}(h:a<b)(g:b<=c):a<c:=Nat.lt_of_lt_of_le h g
theorem ab{p:Prop}(h:p):Hid p:=h
theorem uh{p:Prop}(h:Hid p):p:=h
def iX(c:Int):Bool:=decide (97<=c)&&decide (c<=122)
def l9(c:Int):Bool:=decide (65<=c)&&decide (c<=90)
def aK(w:ByteArray):Bool:=match w.data.toList with|[c]=>iX c.toNat|_=>false
def k8(w:ByteArray):Bool:=match w.data.toList with|[c]=>l9 c.toNat|_=>false
def xd(c:Int):Bool:=c==61||c==42||c==40||c==41||c==44||c==59||c==123||c==125||c==46
theorem aC{a b:Bool}(h:a=b):Ending.returned (.bool a)=.returned (.bool b):=by rw[h]
theorem bi{k:IntKind}{a b:Int}(h:a=b):Ending.returned (.int k a)=.returned (.int k b):=by rw[h]
theorem kI(c:Int)(w:World):
  Calls prog 209 #[.int .u8 c] w λe w'=>e=.returned (.bool (iX c))/\w'=w:=by
 by_cases h:97<=c
 .go_enter func209,ntmps209;go_wp2
  go_ret;exact⟨by simp[iX,h],rfl⟩
 .have hd:decide (97<=c)=false:=by simpa using h
  go_enter func209,ntmps209;go_wp2
  go_ret;exact⟨by simp[iX,hd],rfl⟩
theorem kH(c:Int)(w:World):
  Calls prog 210 #[.int .u8 c] w λe w'=>e=.returned (.bool (l9 c))/\w'=w:=by
 by_cases h:65<=c
 .go_enter func210,ntmps210;go_wp2
  go_ret;exact⟨by simp[l9,h],rfl⟩
 .have hd:decide (65<=c)=false:=by simpa using h
  go_enter func210,ntmps210;go_wp2
  go_ret;exact⟨by simp[l9,hd],rfl⟩
theorem wd(c:Int)(w:World):
  Calls prog 182 #[.int .u8 c] w λe w'=>e=.returned (.bool (xd c))/\w'=w:=by
 go_enter func182,ntmps182;go_wp2
 all_goals
  go_ret;exact⟨aC (by simp[xd, *]),rfl⟩
theorem kK(w:ByteArray)(h:w.size=1):∃c:UInt8,w=⟨#[c]⟩:=by
 obtain⟨⟨l⟩⟩:=w;match l,h with
 |[c],_=>exact⟨c,rfl⟩
theorem wn(c:UInt8):aK ⟨#[c]⟩=iX c.toNat:=rfl
theorem JV(c:UInt8):k8 ⟨#[c]⟩=l9 c.toNat:=rfl
theorem q7(w:ByteArray)(h:w.size≠1):aK w=false:=by
 obtain⟨⟨l⟩⟩:=w;match l,h with
 |[],_=>rfl
 |[_],h=>exact absurd rfl h
 |_::_::_,_=>rfl
theorem JU(w:ByteArray)(h:w.size≠1):k8 w=false:=by
 obtain⟨⟨l⟩⟩:=w;match l,h with
 |[],_=>rfl
 |[_],h=>exact absurd rfl h
 |_::_::_,_=>rfl
theorem YY(c:UInt8)(h:0<(⟨#[c]⟩:ByteArray).size):(⟨#[c]⟩:ByteArray)[0]'h=c:=rfl
theorem ado(s:ByteArray)(w:World):
  Calls prog 75 #[.string s] w λe w'=>e=.returned (.bool (aK s))/\w'=w:=by
 by_cases hs:s.size=1
 .obtain⟨c,rfl⟩:=kK s hs;clear hs;rw[wn];go_enter func75,ntmps75;go_wp2
  all_goals
   go_ret;exact⟨aC (by simp only[YY]at *;simp_all [iX] <;> try (intro _;omega)),rfl⟩
 .rw[q7 s hs];go_enter func75,ntmps75;go_wp2
  go_ret;exact⟨rfl,rfl⟩
theorem ng(s:ByteArray)(w:World):
  Calls prog 248 #[.string s] w λe w'=>e=.returned (.bool (aK s))/\w'=w:=by
 by_cases hs:s.size=1
 .obtain⟨c,rfl⟩:=kK s hs;clear hs;rw[wn];go_enter func248,ntmps248;go_wp2_with (go_at_call 209;refine(kI _ _).mono ?_;rintro e w' ⟨rfl,rfl⟩)
  go_ret;exact⟨rfl,rfl⟩
 .rw[q7 s hs];go_enter func248,ntmps248;go_wp2_with fail
  go_ret;exact⟨rfl,rfl⟩
theorem qR(s:ByteArray)(w:World):
  Calls prog 211 #[.string s] w λe w'=>e=.returned (.bool (k8 s))/\w'=w:=by
 by_cases hs:s.size=1
 .obtain⟨c,rfl⟩:=kK s hs;clear hs;rw[JV];go_enter func211,ntmps211;go_wp2_with (go_at_call 210;refine(kH _ _).mono ?_;rintro e w' ⟨rfl,rfl⟩)
  go_ret;exact⟨rfl,rfl⟩
 .rw[JU s hs];go_enter func211,ntmps211;go_wp2_with fail
  go_ret;exact⟨rfl,rfl⟩
def mf(c:UInt8):Bool:=iX c.toNat||l9 c.toNat
def bE(l:List UInt8):Nat:=(l.takeWhile mf).length
theorem ts(l:List UInt8):bE l<=l.length:=by
 unfold bE;induction l with
 |nil=>simp
 |cons c r ih=>rw[takeWhile_cons];split <;> simp <;> omega
theorem yv(l:List UInt8)(k:Nat)(h:∀j,(hj:j<l.length)->j<k->mf l[j]=true)(hk:k<=l.length):bE l=k+bE (l.drop k):=by
 induction k generalizing l with
 |zero=>simp
 |succ k ih =>
  match l,hk with
  |c::r,hk =>
   have h0:mf c=true:=h 0 (by simp) (by omega);have:=ih r (λj hj IE=>h (j+1) (by simp;omega) (by omega)) (by simpa using hk);simp only[drop_succ_cons];simp only[bE,takeWhile_cons,h0,if_true,length_cons]at this ⊢;omega
theorem pz(l:List UInt8)(k:Nat)(h:∀j,(hj:j<l.length)->j<k->mf l[j]=true)(hk:k<=l.length)(hs:(hj:k<l.length)->mf l[k]=false):bE l=k:=by
 rw[yv l k h hk];by_cases au:k<l.length
 .rw[drop_eq_getElem_cons au];simp only[bE,takeWhile_cons,hs au];simp
 .rw[drop_eq_nil_of_le (by omega)];rfl
theorem qY{l:List UInt8}{k:Nat}(h:∀j,(hj:j<l.length)->j<k->mf l[j]=true)(hn:(hj:k<l.length)->mf l[k]=true):
  ∀j,(hj:j<l.length)->j<k+1->mf l[j]=true:=by
 intro j hj IE;by_cases he:j=k
 .subst he;exact hn hj
 .exact h j hj (by omega)
theorem iO(s:ByteArray)(w:World)(hs:s.size<=20000):
  Calls prog 181 #[.string s] w λe w'=>e=.returned (.int .i64 (bE s.data.toList))/\w'=w:=by
 go_enter func181,ntmps181;go_wp2_with fail
 go_loop [3] (λn=>∃k:Nat,k<=s.size/\n=.int .i64 k/\∀j,(hj:j<s.data.toList.length)->j<k->mf s.data.toList[j]=true) (λn=>s.size-(intOf n).toNat)
 case atStart=>exact⟨0,zq5 _,rfl,λ_ _ h=>absurd h (by omega)⟩
 case round =>
  obtain⟨k,hk,rfl,d9⟩:=hrel;have HA:Hid (∀j,(hj:j<s.data.toList.length)->j<k->mf s.data.toList[j]=true):=d9;clear d9;by_cases au:k<s.size
  .by_cases h1:iX (s[k].toNat:Int)=true
   .go_wp2_with (first|(go_at_call 209;refine(kI _ _).mono ?_;rintro e w' ⟨rfl,rfl⟩)|(go_at_call 210;refine(kH _ _).mono ?_;rintro e w' ⟨rfl,rfl⟩))
    go_round
    case rel=>exact⟨k+1,by omega,by go_num,qY HA.out (λ_=>by simp[mf];exact zq0 h1)⟩
    case measure=>simp[intOf];omega
   .have h1f:iX (s[k].toNat:Int)=false:=(by simpa using h1);clear h1;by_cases h2:l9 (s[k].toNat:Int)=true
    .go_wp2_with (first|(go_at_call 209;refine(kI _ _).mono ?_;rintro e w' ⟨rfl,rfl⟩)|(go_at_call 210;refine(kH _ _).mono ?_;rintro e w' ⟨rfl,rfl⟩))
     go_round
     case rel=>exact⟨k+1,by omega,by go_num,qY HA.out (λ_=>by simp[mf];exact zq1 h2)⟩
     case measure=>simp[intOf];omega
    .have h2f:l9 (s[k].toNat:Int)=false:=(by simpa using h2);clear h2;go_wp2_with (first|(go_at_call 209;refine(kI _ _).mono ?_;rintro e w' ⟨rfl,rfl⟩)|(go_at_call 210;refine(kH _ _).mono ?_;rintro e w' ⟨rfl,rfl⟩))
     go_ret;exact⟨bi (by rw[pz _ k HA.out (by simpa using hk) (λ_=>by simp[mf];exact⟨h1f,h2f⟩)]),rfl⟩
  .have hd:decide ((k:Int)<(s.size:Int))=false:=(by simp;omega);go_wp2_with fail
   go_ret;exact⟨bi (by rw[pz _ k HA.out (by simpa using hk) (λh=>absurd h (by simpa using au))]),rfl⟩
def aR(l:List UInt8):Nat :=
 if 0<bE l then bE l else if l.take 2=[45,62]\/l.take 2=[33,61] then 2 else match l with|c::_=>if xd c.toNat then 1 else 0|[]=>0
theorem mD(s:ByteArray)(k:Nat):(s.extract 0 k).toList=s.data.toList.take k:=by
 rw[Lib.extract_toList];simp
theorem acf{s:ByteArray}(h0:¬ 0<bE s.data.toList)(h:s.data.toList.take 2=[45,62]\/s.data.toList.take 2=[33,61]):aR s.data.toList=2:=by
 rw[aR.eq_def,if_neg h0,if_pos h]
theorem Wr{s:ByteArray}(h0:¬ 0<bE s.data.toList)(h:¬ (s.data.toList.take 2=[45,62]\/s.data.toList.take 2=[33,61]))(hp:0<s.size):
  aR s.data.toList=if xd (s[0].toNat:Int) then 1 else 0:=by
 rw[aR.eq_def,if_neg h0,if_neg h];obtain⟨⟨l⟩⟩:=s;match l,hp with
 |c::r,_=>rfl
theorem Wq{s:ByteArray}(h0:¬ 0<bE s.data.toList)(h:¬ (s.data.toList.take 2=[45,62]\/s.data.toList.take 2=[33,61]))(hp:¬ 0<s.size):
  aR s.data.toList=0:=by
 rw[aR.eq_def,if_neg h0,if_neg h];obtain⟨⟨l⟩⟩:=s;match l,hp with
 |[],_=>rfl
 |_::_,hp=>exact absurd (by simp[ByteArray.size]) hp
theorem Gk(s:ByteArray)(w:World)(hs:s.size<=20000):
  Calls prog 157 #[.string s] w λe w'=>e=.returned (.int .i64 (aR s.data.toList))/\w'=w:=by
 have m8:=ts s.data.toList;by_cases h0:0<bE s.data.toList
 .go_enter func157,ntmps157;go_wp2_with (go_at_call 181;refine(iO _ _ hs).mono ?_;rintro e w' ⟨rfl,rfl⟩)
  go_ret;exact⟨bi (by simp[aR,h0]),rfl⟩
 .by_cases h2:s.data.toList.take 2=[45,62]\/s.data.toList.take 2=[33,61]
  .have hz:2<=s.size:=by
    rw[Lib.size_eq];have hl:=length_take_le' 2 s.data.toList;rcases h2 with e|e <;> rw[e]at hl <;> simpa using hl
   have HW:=ab (acf h0 h2);rw[<-mD]at h2;by_cases h3:(s.extract 0 2).toList=[45,62]
   .clear h2;go_enter func157,ntmps157;go_wp2_with (go_at_call 181;refine(iO _ _ hs).mono ?_;rintro e w' ⟨rfl,rfl⟩)
    go_ret;exact⟨bi (by rw[uh HW];rfl),rfl⟩
   .have h4:=h2.resolve_left h3;clear h2;go_enter func157,ntmps157;go_wp2_with (go_at_call 181;refine(iO _ _ hs).mono ?_;rintro e w' ⟨rfl,rfl⟩)
    all_goals
     go_ret;exact⟨bi (by rw[uh HW];rfl),rfl⟩
  .by_cases hp:0<s.size
   .have HW:=ab (Wr h0 h2 hp);rw[<-mD]at h2;have h3:((s.extract 0 2).toList==[45,62])=false:=(by simpa using λe=>h2 (zq0 e));have h4:((s.extract 0 2).toList==[33,61])=false:=(by simpa using λe=>h2 (zq1 e));clear h2;go_enter func157,ntmps157;go_wp2_with (first|(go_at_call 181;refine(iO _ _ hs).mono ?_;rintro e w' ⟨rfl,rfl⟩)|(go_at_call 182;refine(wd _ _).mono ?_;rintro e w' ⟨rfl,rfl⟩))
    all_goals
     go_ret;exact⟨bi (by rw[uh HW];simp[*]),rfl⟩
   .have HW:=ab (Wq h0 h2 hp);clear h2;go_enter func157,ntmps157;go_wp2_with (first|(go_at_call 181;refine(iO _ _ hs).mono ?_;rintro e w' ⟨rfl,rfl⟩)|(go_at_call 182;refine(wd _ _).mono ?_;rintro e w' ⟨rfl,rfl⟩))
    go_ret;exact⟨bi (by rw[uh HW];rfl),rfl⟩
def fF:Nat->List UInt8->Option (List (List UInt8))
 |_,[]=>some []
 |0,_::_=>none
 |f+1,c::r=>if c=32\/c=10 then fF f r else if aR (c::r)=0 then none else (fF f ((c::r).drop (aR (c::r)))).map ((c::r).take (aR (c::r))::·)
def jc(l:List UInt8):Option (List (List UInt8)):=fF l.length l
theorem D9(f g:Nat)(l:List UInt8)(hf:l.length<=f)(hg:l.length<=g):fF f l=fF g l:=by
 induction f generalizing g l with
 |zero =>
  match l,hf with
  |[],_=>simp[fF]
 |succ f ih =>
  match l,g,hf,hg with
  |[],_,_,_=>simp[fF]
  |c::r,g+1,hf,hg =>
   simp only[fF];simp only[length_cons]at hf hg;split
   .exact ih g r (by omega) (by omega)
   .split
    .rfl
    .rw[ih g _ (by simp;omega) (by simp;omega)]
theorem BT:jc []=some []:=rfl
theorem oE(c:UInt8)(r:List UInt8)(h:c=32\/c=10):jc (c::r)=jc r:=by
 simp only[jc,length_cons,fF,if_pos h]
theorem rs(c:UInt8)(r:List UInt8)(h:¬ (c=32\/c=10))(h0:aR (c::r)=0):jc (c::r)=none:=by
 simp only[jc,length_cons,fF,if_neg h,if_pos h0]
theorem lH(c:UInt8)(r:List UInt8)(h:¬ (c=32\/c=10))(h0:aR (c::r)≠0):
  jc (c::r)=(jc ((c::r).drop (aR (c::r)))).map ((c::r).take (aR (c::r))::·):=by
 simp only[jc,length_cons,fF,if_neg h,if_neg h0];rw[D9 _ _ _ (by simp;omega) (zq4 _)]
theorem qj(l:List UInt8):aR l<=l.length:=by
 rw[aR.eq_def];have:=ts l;split
 .exact this
 .split
  .rename_i h;have hl:=length_take_le' 2 l;rcases h with e|e <;> rw[e]at hl <;> simpa using hl
  .split
   .split <;> simp
   .simp
def zS(l:List UInt8)(k:Nat)(ws:List ByteArray):Prop:=jc l=(jc (l.drop k)).map (ws.map (·.data.toList)++·)
theorem zS.start(l:List UInt8):zS l 0 []:=by simp[zS]
theorem zS.blank{l:List UInt8}{k:Nat}{ws:List ByteArray}(h:zS l k ws)(hk:k<l.length)(hb:l[k]=32\/l[k]=10):zS l (k+1) ws:=by
 unfold zS at *;rw[h,drop_eq_getElem_cons hk,oE _ _ hb]
theorem zS.none{l:List UInt8}{k:Nat}{ws:List ByteArray}(h:zS l k ws)(hk:k<l.length)(hb:¬ (l[k]=32\/l[k]=10))(h0:aR (l.drop k)=0):jc l=.none:=by
 unfold zS at *;rw[drop_eq_getElem_cons hk]at h0 h;rw[h,rs _ _ hb h0];rfl
theorem zS.word {l:List UInt8} {k n:Nat} {ws:List ByteArray} {u:ByteArray} (h:zS l k ws) (hk:k<l.length) (hb:¬ (l[k]=32\/l[k]=10)) (hn:aR (l.drop k)=n) (h0:n≠0)
  (hu:u.data.toList=(l.drop k).take n):zS l (k+n) (ws++[u]):=by
 subst hn;unfold zS at *;rw[<-drop_drop];rw[drop_eq_getElem_cons hk]at h h0 hu ⊢;rw[h,lH _ _ hb h0,Option.map_map];congr 1;funext x;simp only[Function.comp,map_append,map_cons,map_nil,hu,append_assoc,singleton_append]
theorem zS.stop{l:List UInt8}{k:Nat}{ws:List ByteArray}(h:zS l k ws)(hk:l.length<=k):jc l=some (ws.map (·.data.toList)):=by
 unfold zS at *;rw[h,drop_eq_nil_of_le hk,BT];simp
theorem infoStr:(prog.info? 9).map (λi=>(i.zero,i.size,i.bytes))=some (some (.string ⟨#[]⟩),1,16):=by kernel_rfl
theorem JS(c:UInt8)(n:Nat)(hn:n<256):(((c.toNat:Int)==(n:Int))=true)↔c=UInt8.ofNat n:=by
 rw[beq_iff_eq];constructor
 .intro h;have:c.toNat=n:=by omega
  rw[<-this];simp
 .rintro rfl;simp;omega
theorem Bx(w:World)(x:Value)(T:TypeId):∀(j:Nat) (u:Value),[x][j]?=some u->(w.alloc (.cells #[x] T)).cell? ((⟨w.heap.size,0,none⟩:Addr).add j)=some u:=by
 intro j u hj;match j,hj with
 |0,hj=>simp at hj;subst hj;simp[Addr.add]
theorem Ho {W w' w1:World} {e:TypeId} {v v' x:Value} {n:Nat} {xs:List Value} {o:Obj} (aL:w'.ownsRow W.heap.size e 1 v n xs) (cK:Below W.heap.size W w')
  (zl:w1.ownsRow W.heap.size e 1 v' (n+1) (xs++[x])) (hg:(w'.alloc o).grownBy w1 v.ownBlock):w1.ownsRow W.heap.size e 1 v' (n+1) (xs++[x])/\Below W.heap.size W w1 :=
 ⟨zl,(cK.alloc cK.size o).grown hg (by have:=cK.size;simp;omega) (λk hk=>(aL.lt k hk).1)⟩
theorem GW(s:ByteArray)(w:World)(hs:s.size<=20000):
  Calls prog 119 #[.string s] w λe w'=>Below w.heap.size w w' /\
   ((jc s.data.toList=none/\e=.returned (.tuple #[.slice none 0 0,.bool false])) \/
    ∃(ws:List ByteArray) (v:Value),jc s.data.toList=some (ws.map (·.data.toList))/\w'.ownsRow w.heap.size 9 1 v ws.length (ws.map Value.string)/\e=.returned (.tuple #[v,.bool true])):=by
 obtain⟨i0,hi,gX,gy,gK⟩:=info_parts infoStr;go_enter func119,ntmps119;go_wp2_with fail
 go_loopw [4,5] (λv i wr=>∃(k:Nat) (ws:List ByteArray),k<=s.size/\ws.length<=k/\i=.int .i64 k/\wr.ownsRow w.heap.size 9 1 v ws.length (ws.map Value.string)/\Below w.heap.size w wr/\Hid (zS s.data.toList k ws)) (λ_ i _=>s.size-(intOf i).toNat)
 case atStart=>exact⟨0,[],zq5 _,zq4 _,rfl,ownsRow_nil _ _ _ _,Below.refl _ _,zS.start _⟩
 case round =>
  obtain⟨k,ws,hk,hwk,rfl,aL,cK,Pc⟩:=hrel;have mO:=cK.size;by_cases au:k<s.size
  .by_cases h1:((s[k].toNat:Int)==32)=true
   .go_wp2_with fail
    go_roundw
    case rel=>exact⟨k+1,ws,by omega,by omega,by go_num,aL,cK,Pc.out.blank (by rw[<-Lib.size_eq];exact au) (zq0 ((JS _ 32 (by omega)).1 h1))⟩
    case measure=>simp[intOf];omega
   .have h1f:((s[k].toNat:Int)==32)=false:=(by simpa using h1);by_cases h2:((s[k].toNat:Int)==10)=true
    .clear h1;go_wp2_with fail
     go_roundw
     case rel=>exact⟨k+1,ws,by omega,by omega,by go_num,aL,cK,Pc.out.blank (by rw[<-Lib.size_eq];exact au) (zq1 ((JS _ 10 (by omega)).1 h2))⟩
     case measure=>simp[intOf];omega
    .have h2f:((s[k].toNat:Int)==10)=false:=(by simpa using h2);have HB:Hid (¬ (s.data.toList[k]'(by rw[<-Lib.size_eq];exact au)=32\/s.data.toList[k]'(by rw[<-Lib.size_eq];exact au)=10)):=by
      rintro(e|e)
      .exact h1 ((JS _ 32 (by omega)).2 e)
      .exact h2 ((JS _ 10 (by omega)).2 e)
     clear h1 h2;have hex:(s.extract k s.size).data.toList=s.data.toList.drop k:=by
      rw[Lib.extract_data];exact take_of_length_le (by rw[length_drop,<-Lib.size_eq];omega)
     have HEX:=ab hex;clear hex;have m8:=qj (s.extract k s.size).data.toList;rw[uh HEX,length_drop,<-Lib.size_eq]at m8;obtain⟨n,hn⟩:∃n,n=aR (s.extract k s.size).data.toList:=⟨_,rfl⟩;have HN:Hid (aR (s.data.toList.drop k)=n):=(by rw[<-uh HEX];exact hn.symm);rw[uh HN]at m8;have hc:=fun(wx:World)=>(Gk (s.extract k s.size) wx (by simp;omega))
     rw[<-hn]at hc;clear hn;have HC:=ab hc;clear hc;by_cases hz:n=0
     .subst hz;go_wp2_with (go_at_call 157;refine(uh HC _).mono ?_;rintro e w' ⟨rfl,rfl⟩)
      go_ret2;exact⟨cK,zq0 ⟨Pc.out.none (by rw[<-Lib.size_eq];exact au) HB.out HN.out,rfl⟩⟩
     .have hzf:((n:Int)==0)=false:=(by simpa using hz);have gu:k+n<=s.size:=(by omega);have hnp:0<n:=(by omega);clear hz m8;go_wp2_with (first|(go_at_call 157;refine(uh HC _).mono ?_;rintro e w' ⟨rfl,rfl⟩)|(at_builtin;refine wpList_append_own _ rfl _ _ 50 rfl w.heap.size 9 i0 (.string ⟨#[]⟩) 1 16 underlying50 hi gX gy gK rfl (by decide) _ _ _ rfl (aL.alloc _) ⟨_,0,none⟩ 1 1 [.string (s.extract k (k+n))] rfl rfl ?c1 ?c2 ?c3 ?c4 ?c5 ?_))
      case c1=>exact Bx _ _ _
      case c2=>intro u hu;simp at hu;subst hu;rfl
      case c3=>unfold maxLen;omega
      case c4=>omega
      case c5=>simp;omega
      intro v' w1 zl Xx _;have R:=Ho aL cK zl Xx;clear zl Xx aL cK;go_wp2_with fail
      go_roundw
      case rel=>exact⟨k+n,ws++[s.extract k (k+n)],by omega,by simp;omega,by go_num,by simpa using R.1,R.2,Pc.out.word (by rw[<-Lib.size_eq];exact au) HB.out HN.out (by simpa using hzf) (by rw[Lib.extract_data];congr 1;omega)⟩
      case measure=>simp[intOf];omega
  .have hd:decide ((k:Int)<(s.size:Int))=false:=(by simp;omega);go_wp2_with fail
   go_ret2;exact⟨cK,zq1 ⟨ws,_,Pc.out.stop (by rw[<-Lib.size_eq];omega),aL,rfl⟩⟩
def MX(w:World)(v:Value)(ws:List ByteArray):Prop :=
 ∃ao cap,v=.slice ao ws.length cap/\ws.length<=cap/\cap<=maxLen/\(ws≠[]->∃g off,ao=some ⟨g,off,none⟩/\∀j,(h:j<ws.length)->w.cell? ⟨g,off+j,none⟩=some (.string ws[j]))
theorem MX.of_own{w:World}{B:Nat}{v:Value}{ws:List ByteArray}(h:w.ownsRow B 9 1 v ws.length (ws.map Value.string)):MX w v ws:=by
 have Dc:=λg hg=>h.cells (g:=g) hg;rcases h.2 with⟨rfl,h0⟩|⟨g,cap,cur,rfl,_,_,hn,hm,_,_⟩
 .have:ws=[]:=eq_nil_of_length_eq_zero h0;subst this;exact⟨_,_,rfl,zq4 _,by simp,λh=>absurd rfl h⟩
 .refine⟨_,_,rfl,hn,hm,λ_=>⟨g,0,rfl,λj hj=>?_⟩⟩;have:=Dc g rfl j (.string ws[j]) (by simp[hj]);rw[show(⟨g,0,none⟩:Addr).add j=⟨g,0+j,none⟩ by unfold Addr.add;split <;> simp_all]at this;exact this
def jn:List ByteArray->List UInt8
 |[]=>[]
 |x::r=>x.data.toList++r.flatMap (λy=>32::y.data.toList)
theorem UW(l:List ByteArray)(x:ByteArray)(h:l≠[]):jn (l++[x])=jn l++[32]++x.data.toList:=by
 match l,h with
 |y::r,_=>simp[jn]
theorem Gf(ws:List ByteArray)(k:Nat):(jn (ws.take k)).length<=(jn ws).length:=by
 match ws,k with
 |[],_=>simp[jn]
 |_::_,0=>simp[jn]
 |x::r,k+1 =>
  simp only[take_succ_cons,jn,length_append,length_flatMap];have:∀(r:List ByteArray) k,((r.take k).map λy=>(32::y.data.toList).length).sum<=(r.map λy=>(32::y.data.toList).length).sum:=by
   intro r;induction r with
   |nil=>simp
   |cons y r ih =>
    intro k;cases k with
    |zero=>simp
    |succ k=>simp only[take_succ_cons,map_cons,sum_cons];have:=ih k;omega
  have:=this r k;omega
theorem UX(ws:List ByteArray)(k:Nat)(hk:k<ws.length)(h0:0<k):jn (ws.take (k+1))=jn (ws.take k)++[32]++ws[k].data.toList:=by
 rw[take_succ_eq_append_getElem hk,UW _ _ (ne_nil_of_length_pos (by rw[length_take];omega))]
theorem PU(ws:List ByteArray)(k:Nat)(hk:k<ws.length)(h0:¬ 0<k):jn (ws.take (k+1))=jn (ws.take k)++ws[k].data.toList:=by
 obtain rfl:k=0:=by omega
 rw[take_succ_eq_append_getElem hk];simp[jn]
theorem bU(s:ByteArray):s.data.toList.length=s.size:=(Lib.size_eq s).symm
def bc(l:List UInt8):List Value:=l.map λb=>Value.int .u8 b.toNat
theorem yQ(a b:List UInt8):bc (a++b)=bc a++bc b:=by simp[bc]
theorem tu(s:ByteArray):Lib.strCells s=bc s.data.toList:=rfl
theorem Hp {W w' w1:World} {e:TypeId} {v v':Value} {n m:Nat} {xs ys:List Value} (aL:w'.ownsRow W.heap.size e 1 v n xs) (cK:Below W.heap.size W w')
  (zl:w1.ownsRow W.heap.size e 1 v' m ys) (hg:w'.grownBy w1 v.ownBlock):w1.ownsRow W.heap.size e 1 v' m ys/\Below W.heap.size W w1 :=
 ⟨zl,cK.grown hg cK.size (λk hk=>(aL.lt k hk).1)⟩
theorem iP{w:World}{B:Nat}{e:TypeId}{s n m:Nat}{v:Value}{xs ys:List Value}(h:w.ownsRow B e s v n xs)(hn:m=n)(hx:ys=xs):w.ownsRow B e s v m ys:=by
 rw[hn,hx];exact h
theorem Lv{w:World}{B:Nat}{e:TypeId}{s n:Nat}{v:Value}{xs:List Value}(h:w.ownsRow B e s v n xs):∃a l c,v=.slice a l c:=by
 rcases h.2 with⟨rfl,_⟩|⟨g,cap,cur,rfl,_⟩ <;> exact⟨_,_,_,rfl⟩
theorem NB {P:Program} (src dst e:TypeId) (hs:P.underlying src=some (.slice e)) (he:P.underlying e=some (.int .u8)) (hd:P.underlying dst=some .string)
  {w:World} {B:Nat} {v:Value} {l:List UInt8} (h:w.ownsRow B e 1 v l.length (bc l)):(convert src dst v).run P w=.ok (.string ⟨l.toArray⟩) w:=by
 have Dc:=λg hg=>h.cells (g:=g) hg;rcases h.2 with⟨rfl,h0⟩|⟨g,cap,cur,rfl,_,_,hn,hm,_,_⟩
 .have:l=[]:=eq_nil_of_length_eq_zero h0;subst this;exact run_convert_bytes_nil w src e hs he 0 0 dst hd
 .exact run_convert_bytes_back w src dst e ⟨g,0,none⟩ cap l hs he hd (λj hj=>Dc g rfl j _ (by simp[bc,hj]))
theorem infoByte:(prog.info? 5).map (λi=>(i.zero,i.size,i.bytes))=some (some (.int .u8 0),1,1):=by kernel_rfl
theorem PV(ws:List ByteArray)(v:Value)(w:World)(hv:MX w v ws)(hl:ws.length<=20000)(hj:(jn ws).length<=20000):
  Calls prog 70 #[v] w λe w'=>Below w.heap.size w w'/\e=.returned (.string ⟨(jn ws).toArray⟩):=by
 obtain⟨i0,hi,gX,gy,gK⟩:=info_parts infoByte;obtain⟨ao,cap,rfl,hn,hm,hc⟩:=hv;have HC:=ab hc;clear hc;unfold maxLen at hm;go_enter func70,ntmps70;go_wp2_with fail
 go_loopw [3,4] (λt i wr=>∃k:Nat,k<=ws.length/\i=.int .i64 k/\wr.ownsRow w.heap.size 5 1 t (jn (ws.take k)).length (bc (jn (ws.take k)))/\Below w.heap.size w wr) (λ_ i _=>ws.length-(intOf i).toNat)
 case atStart=>exact⟨0,zq5 _,rfl,ownsRow_nil _ _ _ _,Below.refl _ _⟩
 case round =>
  obtain⟨k,hk,rfl,aL,cK⟩:=hrel;have mO:=cK.size;by_cases au:k<ws.length
  .obtain⟨g,off,s8,ax⟩:=uh HC (by intro h;rw[h]at au;simp at au);have xO:wr.cell? ⟨g,off+k,none⟩=some (.string ws[k]):=by
    rw[cK.cell (block_lt_of_cell? w _ (ax k au))];exact ax k au
   have hcw:=ax;have HCW:=ab hcw;clear ax hcw;rw[s8];have IE:=Gf ws (k+1);by_cases h0:0<k
   .have HJ:=ab (UX ws k au h0);have m8:(jn (ws.take k)).length+1+ws[k].size<=20000:=by
     rw[uh HJ]at IE;simp only[length_append,bU,length_singleton]at IE;omega
    go_wp2_with (first|(at_builtin;refine wpList_append_own _ rfl (.tmp 13) (.tmp 14) 101 rfl w.heap.size 5 i0 (.int .u8 0) 1 1 underlying101 hi gX gy gK rfl (by decide) _ _ _ rfl (aL.alloc _) ⟨_,0,none⟩ 1 1 [.int .u8 32] rfl rfl ?c1 ?c2 ?c3 ?c4 ?c5 ?_))
    case c1=>exact Bx _ _ _
    case c2=>intro u hu;simp at hu;subst hu;rfl
    case c3=>unfold maxLen;omega
    case c4=>omega
    case c5=>simp;omega
    intro v1 w1 fN dL _;have R1:=Ho aL cK fN dL;have alb:w1.cell? ⟨g,off+k,none⟩=some (.string ws[k]):=by
     rw[R1.2.cell (block_lt_of_cell? w _ (uh HCW k au))];exact uh HCW k au
    have al6:=R1.2.size;clear fN dL xO mO;go_wp2_with (at_builtin;refine Lib.wpList_append_own_string _ rfl (.tmp 16) (.tmp 20) 101 9 rfl w.heap.size 5 i0 underlying101 underlying9 hi gX gy gK _ _ _ rfl R1.1 ws[k] rfl ?d1 ?d2 ?d3 ?_)
    case d1=>unfold maxLen;omega
    case d2=>omega
    case d3=>omega
    intro v2 w2 br aM _;have R2:=Hp R1.1 R1.2 br aM;clear br aM R1 aL cK alb;go_wp2_with fail
    go_roundw
    case rel=>exact⟨k+1,by omega,by go_num,by rw[uh HJ];exact iP R2.1 (by simp only[length_append,bU,length_singleton]) (by simp only[tu,yQ,append_assoc];rfl),R2.2⟩
    case measure=>simp[intOf];omega
   .have HJ:=ab (PU ws k au h0);have m8:(jn (ws.take k)).length+ws[k].size<=20000:=by
     rw[uh HJ]at IE;simp only[length_append,bU]at IE;omega
    go_wp2_with (at_builtin;refine Lib.wpList_append_own_string _ rfl _ _ 101 9 rfl w.heap.size 5 i0 underlying101 underlying9 hi gX gy gK _ _ _ rfl aL ws[k] rfl ?d1 ?d2 ?d3 ?_)
    case d1=>unfold maxLen;omega
    case d2=>omega
    case d3=>omega
    intro v2 w2 br aM _;have R2:=Hp aL cK br aM;clear br aM aL cK xO;go_wp2_with fail
    go_roundw
    case rel=>exact⟨k+1,by omega,by go_num,by rw[uh HJ];exact iP R2.1 (by simp only[length_append,bU]) (by simp only[tu,yQ]),R2.2⟩
    case measure=>simp[intOf];omega
  .have hd:decide ((k:Int)<(ws.length:Int))=false:=(by simp;omega);have kE:ws.take k=ws:=take_of_length_le (by omega);rw[kE]at aL;clear kE;have Mi:=NB (P:=prog) 101 9 5 underlying101 underlying5 underlying9 aL;obtain⟨a1,l1,c1,hu⟩:=Lv aL;rw[hu]at Mi ⊢;go_wp2_with fail
   go_ret;exact⟨cK,rfl⟩
structure Nd where
 op:Nat
 v:Nat
 ak:Nat
 ai:Nat
 nx:Nat
 ot:Nat
def Nd.cells(n:Nd):List Value:=[.int .i64 n.op,.int .i64 n.v,.int .i64 n.ak,.int .i64 n.ai,.int .i64 n.nx,.int .i64 n.ot]
def bh(l:List Nd):List Value:=l.flatMap Nd.cells
structure PS where
 pos:Nat
 failed:Bool
 vars:List UInt8
 hid:List UInt8
 nodes:List Nd
structure ar(F:List Nat)(w:World)(F':List Nat)(w':World):Prop where
 os:w'.os=w.os
 tape:w'.tape=w.tape
 output:w'.output=w.output
 size:w.heap.size<=w'.heap.size
 block:∀k,k<w.heap.size->k ∉ F->w'.heap[k]?=w.heap[k]?
 foot:∀k,k∈F'->k∈F\/w.heap.size<=k
theorem ar.refl(F:List Nat)(w:World):ar F w F w:=⟨rfl,rfl,rfl,zq4 _,λ_ _ _=>rfl,λ_ h=>zq0 h⟩
theorem ar.trans{F F' F'':List Nat}{a b c:World}(h:ar F a F' b)(k:ar F' b F'' c):ar F a F'' c :=
 ⟨k.os.trans h.os,k.tape.trans h.tape,k.output.trans h.output,zq3 h.size k.size,
  λi hi hF=>(k.block i (zq6 hi h.size) (λhm=>by rcases h.foot i hm with h1|h1;exact hF h1;omega)).trans (h.block i hi hF),
  λi hm=>by rcases k.foot i hm with h1|h1;exact h.foot i h1;exact zq1 (zq3 h.size h1)⟩
theorem ar.drew{F F':List Nat}{a w:World}(h:ar F a F' w):ar F a F' w.drew:=⟨h.os,h.tape,h.output,h.size,h.block,h.foot⟩
theorem ar.drewN{F F':List Nat}{a w:World}(h:ar F a F' w)(n:Nat):ar F a F' (w.drewN n):=⟨h.os,h.tape,h.output,h.size,h.block,h.foot⟩
theorem ar.alloc{F F':List Nat}{a w:World}(h:ar F a F' w)(o:Obj):ar F a F' (w.alloc o) :=
 ⟨h.os,h.tape,h.output,by have:=h.size;simp;omega,λk hk hF=>by rw[heap_alloc _ _ _ (zq6 hk h.size)];exact h.block k hk hF,h.foot⟩
theorem ar.setCell{F F':List Nat}{a w:World}(h:ar F a F' w){p:Addr}(hp:p.block∈F\/a.heap.size<=p.block)(u:Value):ar F a F' (w.setCell p u) :=
 ⟨h.os,h.tape,h.output,by simpa[World.setCell] using h.size,λk hk hF=>by
  rw[heap_setCell _ _ _ _ (by rintro rfl;rcases hp with hp|hp;exact hF hp;omega)];exact h.block k hk hF,h.foot⟩
theorem ar.grown{F F':List Nat}{a w w':World}{row:Option Nat}(h:ar F a F' w)(hg:w.grownBy w' row)(hr:∀k,row=some k->k∈F\/a.heap.size<=k):ar F a F' w' :=
 ⟨hg.os.trans h.os,hg.tape.trans h.tape,hg.output.trans h.output,zq3 h.size hg.size,λk hk hF=>by
  rw[hg.block k (zq6 hk h.size) (λe=>by rcases hr k e.symm with h1|h1;exact hF h1;omega)];exact h.block k hk hF,h.foot⟩
theorem ar.below{F F':List Nat}{w w':World}{B:Nat}(h:ar F w F' w')(hB:B<=w.heap.size)(hF:∀k∈F,B<=k):Below B w w' :=
 ⟨h.os,h.tape,h.output,h.size,λk hk=>h.block k (zq6 hk hB) (λhm=>by have:=hF k hm;omega)⟩
def lT(B:Nat)(WV:Value)(w:World)(P:Nat)(ws:List ByteArray)(s:PS)(F:List Nat):Prop :=
 ∃wv vv hv nv:Value,
  w.heap[P]?=some (.cells #[wv,.int .i64 s.pos,.bool s.failed,vv,hv,nv] 133 (0,0))/\(B<=P/\wv=WV) /\
  w.ownsRow B 9 1 wv ws.length (ws.map Value.string) /\
  w.ownsRow B 5 1 vv s.vars.length (bc s.vars) /\
  w.ownsRow B 5 1 hv s.hid.length (bc s.hid) /\
  w.ownsRow B 186 6 nv s.nodes.length (bh s.nodes) /\
  F=P::(wv.ownBlock.toList++(vv.ownBlock.toList++(hv.ownBlock.toList++nv.ownBlock.toList)))/\F.Nodup
theorem ae{w w':World}{B:Nat}{e:TypeId}{sz n:Nat}{v:Value}{xs:List Value}(h:w.ownsRow B e sz v n xs)(hb:∀k,v.ownBlock=some k->w'.heap[k]?=w.heap[k]?):w'.ownsRow B e sz v n xs:=by
 refine⟨h.1,?_⟩;rcases h.2 with hn|⟨g,cap,cur,rfl,hB,hg,rest⟩
 .exact .inl hn
 .exact .inr ⟨g,cap,cur,rfl,hB,by rw[hb g rfl];exact hg,rest⟩
theorem lT.mem{B:Nat}{WV:Value}{w:World}{P:Nat}{ws:List ByteArray}{s:PS}{F:List Nat}(h:lT B WV w P ws s F):∀k∈F,B<=k/\k<w.heap.size:=by
 obtain⟨wv,vv,hv,nv,hP,hB,h1,h2,h3,h4,rfl,_⟩:=h;intro k hk;simp only[mem_cons,mem_append,Option.mem_toList]at hk;rcases hk with rfl|hk|hk|hk|hk
 .exact⟨hB.1,(Array.getElem?_eq_some_iff.1 hP).1⟩
 .exact h1.lt k hk
 .exact h2.lt k hk
 .exact h3.lt k hk
 .exact h4.lt k hk
theorem lT.memP{B:Nat}{WV:Value}{w:World}{P:Nat}{ws:List ByteArray}{s:PS}{F:List Nat}(h:lT B WV w P ws s F):P∈F:=by
 obtain⟨wv,vv,hv,nv,hP,hB,h1,h2,h3,h4,rfl,_⟩:=h;simp
theorem lT.of_eq{B:Nat}{WV:Value}{w w':World}{P:Nat}{ws:List ByteArray}{s:PS}{F:List Nat}(h:lT B WV w P ws s F)(he:∀k∈F,w'.heap[k]?=w.heap[k]?):lT B WV w' P ws s F:=by
 obtain⟨wv,vv,hv,nv,hP,hB,h1,h2,h3,h4,hF,hN⟩:=h;have hm:∀k,k=P\/wv.ownBlock=some k\/vv.ownBlock=some k\/hv.ownBlock=some k\/nv.ownBlock=some k->k∈F:=by
  intro k hk;rw[hF];simpa using hk
 exact⟨wv,vv,hv,nv,by rw[he P (hm P (by simp))];exact hP,hB,ae h1 (λk hk=>he k (hm k (by simp[hk]))),ae h2 (λk hk=>he k (hm k (by simp[hk]))),
  ae h3 (λk hk=>he k (hm k (by simp[hk]))),ae h4 (λk hk=>he k (hm k (by simp[hk]))),hF,hN⟩
theorem lT.drewN{B:Nat}{WV:Value}{w:World}{P:Nat}{ws:List ByteArray}{s:PS}{F:List Nat}(h:lT B WV w P ws s F)(n:Nat):lT B WV (w.drewN n) P ws s F :=
 h.of_eq (λ_ _=>by simp)
theorem lT.drew{B:Nat}{WV:Value}{w:World}{P:Nat}{ws:List ByteArray}{s:PS}{F:List Nat}(h:lT B WV w P ws s F):lT B WV w.drew P ws s F:=h.of_eq (λ_ _=>rfl)
theorem lT.alloc{B:Nat}{WV:Value}{w:World}{P:Nat}{ws:List ByteArray}{s:PS}{F:List Nat}(h:lT B WV w P ws s F)(o:Obj):lT B WV (w.alloc o) P ws s F :=
 h.of_eq (λk hk=>heap_alloc _ _ _ (h.mem k hk).2)
theorem lT.setOther{B:Nat}{WV:Value}{w:World}{P:Nat}{ws:List ByteArray}{s:PS}{F:List Nat}(h:lT B WV w P ws s F){p:Addr}(hp:p.block ∉ F)(u:Value):lT B WV (w.setCell p u) P ws s F :=
 h.of_eq (λk hk=>heap_setCell _ _ _ _ (by rintro rfl;exact hp hk))
theorem jD{w:World}{P:Nat}{a b c d e f:Value}{t:TypeId}(h:w.heap[P]?=some (.cells #[a,b,c,d,e,f] t (0,0))):
  (w.cell? ⟨P,0,none⟩=some a/\w.cell? ⟨P,1,none⟩=some b/\w.cell? ⟨P,2,none⟩=some c/\w.cell? ⟨P,3,none⟩=some d/\w.cell? ⟨P,4,none⟩=some e/\w.cell? ⟨P,5,none⟩=some f) /\
  ∀j,w.frozen? ⟨P,j,none⟩=false:=by
 refine⟨⟨?_,?_,?_,?_,?_,?_⟩,λj=>?_⟩
 all_goals simp[World.cell?,World.frozen?,h]
def pk(ws:List ByteArray)(s:PS):ByteArray:=if s.failed=true then ⟨#[]⟩ else ws[s.pos]?.getD ⟨#[]⟩
def bK(ws:List ByteArray)(k:ByteArray)(s:PS):Bool:=(pk ws s).toList==k.toList
def PS.adv(s:PS):PS:={ s with pos:=s.pos+1 }
def PS.fail(s:PS):PS:={ s with failed:=true }
def lV(ws:List ByteArray)(k:ByteArray)(s:PS):PS:=if bK ws k s then s.adv else s
def aF(ws:List ByteArray)(k:ByteArray)(s:PS):PS:=if bK ws k s then s.adv else s.fail
theorem lD{ws:List ByteArray}{s:PS}(h:s.failed=true):pk ws s=⟨#[]⟩:=if_pos h
theorem Gv{ws:List ByteArray}{s:PS}(h:ws.length<=s.pos):pk ws s=⟨#[]⟩:=by
 unfold pk;split
 .rfl
 .rw[getElem?_eq_none h];rfl
theorem ahp{ws:List ByteArray}{s:PS}(h:s.failed=false)(hp:s.pos<ws.length):pk ws s=ws[s.pos]:=by
 unfold pk;rw[if_neg (by simp[h]),getElem?_eq_getElem hp];rfl
theorem Zb(w:World)(a b:Nat):(w.drewN a).drewN b=w.drewN (a+b):=by simp[World.drewN,Nat.add_assoc]
def Ei(ws:List ByteArray)(s:PS):Prop:=ws.length<=240/\s.pos<=ws.length/\s.vars.length<=240+s.pos/\s.hid.length<=s.pos
theorem Ei.adv{ws:List ByteArray}{s:PS}(h:Ei ws s)(hp:s.pos<ws.length):Ei ws s.adv:=by
 obtain⟨a,b,c,d⟩:=h;simp only[Ei,PS.adv];omega
theorem zA{ws:List ByteArray}{s:PS}(h:(pk ws s).size≠0):s.failed=false/\s.pos<ws.length:=by
 by_cases hp:s.pos<ws.length
 .refine⟨?_,hp⟩;cases hf:s.failed with
  |false=>rfl
  |true=>rw[lD hf]at h;exact absurd rfl h
 .rw[Gv (by omega)]at h;exact absurd rfl h
theorem jh{a b:ByteArray}(h:(a.toList==b.toList)=true):a=b:=by
 rw[ByteArray.toList_eq,ByteArray.toList_eq]at h;obtain⟨⟨x⟩⟩:=a;obtain⟨⟨y⟩⟩:=b;have:x=y:=by simpa using h
 rw[this]
theorem MY{ws:List ByteArray}{k:ByteArray}{s:PS}(hk:k.size≠0)(h:bK ws k s=true):s.pos<ws.length:=by
 have:=jh h;exact(zA (by rw[this];exact hk)).2
structure fh(B:Nat)(WV:Value)(w:World)(P:Nat)(ws:List ByteArray)(s:PS)(F:List Nat):Prop where
 m:lT B WV w P ws s F
 f:Ei ws s
section
variable {B:Nat} {WV:Value} {w:World} {P:Nat} {ws:List ByteArray} {s:PS} {F:List Nat}
theorem lC(h:fh B WV w P ws s F):
  Calls prog 160 #[.pointer (some ⟨P,0,none⟩)] w λe w'=>e=.returned (.string (pk ws s))/\∃n,w'=w.drewN n:=by
 obtain⟨⟨wv,vv,hv,nv,hP,hB,h1,h2,h3,h4,hF,hN⟩,FL⟩:=h;obtain⟨hl,hp,_,_⟩:=FL;obtain⟨⟨c0,c1,c2,_,_,_⟩,fz⟩:=jD hP;clear h2 h3 h4 hF hN hB hP fz;obtain⟨ao,cap,rfl,hn,hm,hc⟩:=MX.of_own h1;have HC:=ab hc;clear hc h1;unfold maxLen at hm;cases hf:s.failed with
 |true =>
  rw[lD hf];rw[hf]at c2;clear hf;go_enter func160,ntmps160;go_wp2_with fail
  go_quiet (fail)
  go_wp2_with fail
  go_ret;exact⟨rfl,_,rfl⟩
 |false =>
  rw[hf]at c2;by_cases au:s.pos<ws.length
  .obtain⟨g,off,s8,ax⟩:=uh HC (by intro h;rw[h]at au;simp at au);have xO:=ax s.pos au;rw[ahp hf au];have hd:decide ((ws.length:Int)<=(s.pos:Int))=false:=(by simp;omega);clear ax hf;rw[s8]at c0;go_enter func160,ntmps160;go_wp2_with fail
   go_quiet (fail)
   go_wp2_with fail
   go_quiet (fail)
   go_wp2_with fail
   go_ret;exact⟨rfl,_,Zb _ _ _⟩
  .rw[Gv (by omega)];have hd:decide ((ws.length:Int)<=(s.pos:Int))=true:=(by simp;omega);clear hf;go_enter func160,ntmps160;go_wp2_with fail
   go_quiet (fail)
   go_wp2_with fail
   go_ret;exact⟨rfl,_,rfl⟩
theorem yz{w:World}{P:Nat}{xs:Array Value}{t:TypeId}{j:Nat}(h:w.heap[P]?=some (.cells xs t (0,0)))(u:Value):
  (w.setCell ⟨P,j,none⟩ u).heap[P]?=some (.cells (xs.setIfInBounds j u) t (0,0)):=by
 simp[World.setCell,Array.getElem?_modify,h]
theorem lT.setPos(h:lT B WV w P ws s F)(n:Nat):lT B WV (w.setCell ⟨P,1,none⟩ (.int .i64 n)) P ws { s with pos:=n } F:=by
 obtain⟨wv,vv,hv,nv,hP,hB,h1,h2,h3,h4,hF,hN⟩:=h;have aH:∀k,wv.ownBlock=some k\/vv.ownBlock=some k\/hv.ownBlock=some k\/nv.ownBlock=some k->k≠P:=by
  rw[hF]at hN;rintro k hk rfl;exact(nodup_cons.1 hN).1 (by simpa using hk)
 have hk:∀k,wv.ownBlock=some k\/vv.ownBlock=some k\/hv.ownBlock=some k\/nv.ownBlock=some k->(w.setCell ⟨P,1,none⟩ (.int .i64 n)).heap[k]?=w.heap[k]? :=
  λk hk=>heap_setCell _ _ _ _ (aH k hk)
 exact⟨wv,vv,hv,nv,yz hP _,hB,ae h1 (λk h=>hk k (by simp[h])),ae h2 (λk h=>hk k (by simp[h])),ae h3 (λk h=>hk k (by simp[h])),ae h4 (λk h=>hk k (by simp[h])),hF,hN⟩
theorem lT.setFailed(h:lT B WV w P ws s F)(b:Bool):lT B WV (w.setCell ⟨P,2,none⟩ (.bool b)) P ws { s with failed:=b } F:=by
 obtain⟨wv,vv,hv,nv,hP,hB,h1,h2,h3,h4,hF,hN⟩:=h;have aH:∀k,wv.ownBlock=some k\/vv.ownBlock=some k\/hv.ownBlock=some k\/nv.ownBlock=some k->k≠P:=by
  rw[hF]at hN;rintro k hk rfl;exact(nodup_cons.1 hN).1 (by simpa using hk)
 have hk:∀k,wv.ownBlock=some k\/vv.ownBlock=some k\/hv.ownBlock=some k\/nv.ownBlock=some k->(w.setCell ⟨P,2,none⟩ (.bool b)).heap[k]?=w.heap[k]? :=
  λk hk=>heap_setCell _ _ _ _ (aH k hk)
 exact⟨wv,vv,hv,nv,yz hP _,hB,ae h1 (λk h=>hk k (by simp[h])),ae h2 (λk h=>hk k (by simp[h])),ae h3 (λk h=>hk k (by simp[h])),ae h4 (λk h=>hk k (by simp[h])),hF,hN⟩
theorem lT.reads(h:lT B WV w P ws s F):w.cell? ⟨P,1,none⟩=some (.int .i64 s.pos)/\w.cell? ⟨P,2,none⟩=some (.bool s.failed)/\w.frozen? ⟨P,1,none⟩=false/\w.frozen? ⟨P,2,none⟩=false:=by
 obtain⟨wv,vv,hv,nv,hP,_⟩:=h;obtain⟨⟨c0,c1,c2,_,_,_⟩,fz⟩:=jD hP;exact⟨c1,c2,fz 1,fz 2⟩
theorem aA(k:ByteArray)(hk:k.size≠0)(h:fh B WV w P ws s F):
  Calls prog 158 #[.pointer (some ⟨P,0,none⟩),.string k] w λe w'=>e=.returned (.bool (bK ws k s))/\fh B WV w' P ws (lV ws k s) F/\ar F w F w':=by
 have HP:=ab h;cases hb:bK ws k s with
 |true =>
  have xN:((pk ws s).toList==k.toList)=true:=hb;have HS:Hid (lV ws k s=s.adv):=if_pos hb;clear hb;obtain⟨c1,c2,f1,f2⟩:=h.m.reads;obtain⟨hl,hp,_,_⟩:=h.f;clear h c2 f2;go_enter func158,ntmps158;go_wp2_with (go_at_call 160;refine(lC (uh HP)).mono ?_;rintro e w' ⟨rfl,n,rfl⟩)
  go_ret;exact⟨rfl,by rw[uh HS];exact⟨((uh HP).m.drewN n).setPos _,(uh HP).f.adv (MY hk xN)⟩,((ar.refl F w).drewN n).setCell (zq0 (uh HP).m.memP) _⟩
 |false =>
  have xN:((pk ws s).toList==k.toList)=false:=hb;have HS:Hid (lV ws k s=s):=if_neg (by simp[hb]);clear hb h;go_enter func158,ntmps158;go_wp2_with (go_at_call 160;refine(lC (uh HP)).mono ?_;rintro e w' ⟨rfl,n,rfl⟩)
  go_ret;exact⟨rfl,by rw[uh HS];exact⟨(uh HP).m.drewN n,(uh HP).f⟩,(ar.refl F w).drewN n⟩
theorem aZ(k:ByteArray)(hk:k.size≠0)(h:fh B WV w P ws s F):
  Calls prog 120 #[.pointer (some ⟨P,0,none⟩),.string k] w λe w'=>e=.returned (.tuple #[])/\fh B WV w' P ws (aF ws k s) F/\ar F w F w':=by
 have HP:=ab h;clear h;have HA:=ab (aA k hk (uh HP));cases hb:bK ws k s with
 |true =>
  have HS:Hid (lV ws k s=aF ws k s):=ab (by unfold lV aF;rw[if_pos hb,if_pos hb]);rw[hb]at HA;clear hb;go_enter func120,ntmps120;go_wp2_with (go_at_call 158;refine(uh HA).mono ?_;rintro e w' ⟨rfl,hI,hS⟩)
  go_end0
  exact⟨rfl,by rw[<-uh HS];exact hI,hS⟩
 |false =>
  have HS:Hid (aF ws k s=(lV ws k s).fail):=ab (by unfold lV aF;rw[if_neg (by simp[hb]),if_neg (by simp[hb])]);rw[hb]at HA;clear hb;go_enter func120,ntmps120;go_wp2_with (go_at_call 158;refine(uh HA).mono ?_;rintro e w' ⟨rfl,hI,hS⟩;obtain⟨c1,c2,f1,f2⟩:=hI.m.reads;have HI:=ab hI;clear hI)
  go_end0
  exact⟨rfl,by rw[uh HS];exact⟨(uh HI).m.setFailed true,(uh HI).f⟩,hS.setCell (zq0 (uh HI).m.memP) _⟩
end
def plc:List UInt8->UInt8->Nat
 |[],_=>0
 |x::r,c=>if x=c then 0 else plc r c+1
theorem wO(l:List UInt8)(c:UInt8):plc l c<=l.length:=by
 induction l with
 |nil=>simp[plc]
 |cons x r ih=>simp only[plc];split <;> simp <;> omega
theorem VH(l:List UInt8)(c:UInt8)(k:Nat)(hk:k<l.length)(hn:∀j,(hj:j<l.length)->j<k->l[j]≠c)(h:l[k]=c):plc l c=k:=by
 induction l generalizing k with
 |nil=>simp at hk
 |cons x r ih =>
  cases k with
  |zero=>simp only[getElem_cons_zero]at h;simp[plc,h]
  |succ k =>
   have h0:x≠c:=hn 0 (by simp) (by omega);simp only[plc,if_neg h0];rw[ih k (by simpa using hk) (λj hj IE=>hn (j+1) (by simpa using hj) (by omega)) (by simpa using h)]
theorem QJ(l:List UInt8)(c:UInt8)(hn:∀j,(hj:j<l.length)->l[j]≠c):plc l c=l.length:=by
 induction l with
 |nil=>rfl
 |cons x r ih =>
  have h0:x≠c:=hn 0 (by simp);simp only[plc,if_neg h0,length_cons];rw[ih (λj hj=>hn (j+1) (by simpa using hj))]
theorem lX{w:World}{B:Nat}{v:Value}{l:List UInt8}(h:w.ownsRow B 5 1 v l.length (bc l)):
  ∃ao cap,v=.slice ao l.length cap/\cap<=maxLen/\(l≠[]->∃g,ao=some ⟨g,0,none⟩/\∀j,(h:j<l.length)->w.cell? ⟨g,j,none⟩=some (.int .u8 (l[j].toNat:Int))):=by
 have Dc:=λg hg=>h.cells (g:=g) hg;rcases h.2 with⟨rfl,h0⟩|⟨g,cap,cur,rfl,_,_,hn,hm,_,_⟩
 .have:l=[]:=eq_nil_of_length_eq_zero h0;subst this;exact⟨_,_,rfl,by simp,λh=>absurd rfl h⟩
 .refine⟨_,_,rfl,hm,λ_=>⟨g,rfl,λj hj=>?_⟩⟩;have:=Dc g rfl j (.int .u8 (l[j].toNat:Int)) (by simp[bc,hj]);rw[show(⟨g,0,none⟩:Addr).add j=⟨g,j,none⟩ by unfold Addr.add;split <;> simp_all]at this;exact this
theorem RH(a c:UInt8):((a.toNat:Int)==(c.toNat:Int))=true↔a=c:=by
 rw[beq_iff_eq];constructor
 .intro h;apply UInt8.toNat.inj;omega
 .rintro rfl;rfl
theorem LH{B:Nat}{w:World}{v:Value}{l:List UInt8}(c:UInt8)(h:w.ownsRow B 5 1 v l.length (bc l))(hl:l.length<=20000):
  Calls prog 212 #[v,.int .u8 (c.toNat:Int)] w λe w'=>e=.returned (.int .i64 (plc l c))/\w'=w:=by
 obtain⟨ao,cap,rfl,hm,hc⟩:=lX h;have HC:=ab hc;clear hc h;unfold maxLen at hm;go_enter func212,ntmps212;go_wp2_with fail
 go_loop [5] (λi=>∃k:Nat,k<=l.length/\i=.int .i64 k/\Hid (∀j,(hj:j<l.length)->j<k->l[j]≠c)) (λi=>l.length-(intOf i).toNat)
 case atStart=>exact⟨0,zq5 _,rfl,λ_ _ h=>absurd h (by omega)⟩
 case round =>
  obtain⟨k,hk,rfl,d9⟩:=hrel;by_cases au:k<l.length
  .obtain⟨g,s8,ax⟩:=uh HC (by intro h;rw[h]at au;simp at au);have xO:=ax k au;clear ax;rw[s8];cases he:((l[k].toNat:Int)==(c.toNat:Int)) with
   |true =>
    go_wp2_with fail
    go_ret;exact⟨bi (by rw[VH l c k au d9.out ((RH _ _).1 he)]),rfl⟩
   |false =>
    go_wp2_with fail
    go_round
    case rel =>
     refine⟨k+1,by omega,by go_num,λj hj IE=>?_⟩;by_cases aah:j=k
     .subst aah;intro e;rw[(RH _ _).2 e]at he;cases he
     .exact d9.out j hj (by omega)
    case measure=>simp[intOf];omega
  .have hd:decide ((k:Int)<(l.length:Int))=false:=(by simp;omega);go_wp2_with fail
   go_ret;exact⟨bi (by rw[QJ l c (λj hj=>d9.out j hj (by omega))]),rfl⟩
section
variable {P:Program} (w:World)
theorem D3 (base:Nat) (t ty e:TypeId) (i:TypeInfo) (z:Value) (size bytes:Nat) (ht:P.underlying t=some (.slice e)) (hi:P.info? e=some i) (hz:i.zero=some z)
  (jQ:i.size=size) (FI:i.bytes=bytes) (Le:z.cells.size=size) (mO:0<size)
  (v:Value) (n:Nat) (xs:List Value) (aL:w.ownsRow base e size v n xs)
  (a:Addr) (c:Nat) (news:List Value) (hl:news.length=size) (iG:∀j u,news[j]?=some u->w.cell? (a.add j)=some u) (h1:∀u∈news,u.oneCell'=true)
  (Ky:n+1<=1000000) (hb:bytes<=1000) (gI:base<=w.heap.size) :
  ∃v' w',(Builtin.append_ #[t,t] ty #[v,.slice (some a) 1 c]).run P w=.ok v' w'/\w'.ownsRow base e size v' (n+1) (xs++news)/\w.grownBy w' v.ownBlock /\
   (v'.ownBlock=v.ownBlock\/v'.ownBlock=some w.heap.size)/\∃g cap,v'=.slice (some ⟨g,0,none⟩) (n+1) cap:=by
 have hbytes:(n+1)*bytes<=140737488355328:=zq3 (Nat.mul_le_mul Ky hb) (by decide);obtain⟨v',w',hr,ho,hg,_⟩:=run_append_own (P:=P) w base t ty e i z size bytes ht hi hz jQ FI Le mO v n xs aL a 1 c news (by omega) iG h1 (by unfold maxLen;omega) hbytes gI;refine⟨v',w',hr,ho,hg,?_,?_⟩
 .subst jQ;subst FI;rcases aL.2 with⟨rfl,rfl⟩|⟨g,cap,cur,rfl,nV,UA,Mq,oT,Dc,PK⟩
  .have j9:=run_append_nil (P:=P) w t ty e i z ht hi hz a 1 c news (by omega) iG (by omega) (by omega) (by omega);rw[hr]at j9;injection j9 with e1 e2;subst e1;exact zq1 rfl
  .by_cases Ds:n+1<=cap
   .have FL:n*i.size+news.length<=cur.size:=by
     rw[hl,Dc];have:=Nat.mul_le_mul_right i.size Ds;rw[Nat.add_mul]at this;omega
    have j9:=run_append_room (P:=P) w t ty e i ht hi g n cap cur UA a 1 c news (by omega) iG h1 Ds FL;rw[hr]at j9;injection j9 with e1 e2;subst e1;exact zq0 rfl
   .have holds:∀j u,xs[j]?=some u->w.cell? ((⟨g,0,none⟩:Addr).add j)=some u:=aL.cells (g:=g) rfl;have j9:=run_append_grow (P:=P) w t ty e i z ht hi hz ⟨g,0,none⟩ n cap xs aL.1 holds a 1 c news (by omega) iG (by omega) (by omega) (growslice_fits (by omega) hbytes);rw[hr]at j9;injection j9 with e1 e2;subst e1;exact zq1 rfl
 .rcases ho.2 with⟨_,h⟩|⟨g,cap,_,h,_⟩
  .omega
  .exact⟨g,cap,h⟩
theorem jy {ops:Array Oper} {o:Oper} {a:Act} {K:Act->World->Prop} {Q:Exit->Act->World->Prop} {E:Prop}
  (hg:o.guard=none) (s x:Operand) (t:TypeId) (pq:o.op=Op.call { callee:=Callee.builtin Builtin.append,args:=#[s,x],argTypes:=#[t,t] })
  (base:Nat) (e:TypeId) (i:TypeInfo) (z:Value) (size bytes:Nat) (ht:P.underlying t=some (.slice e)) (hi:P.info? e=some i) (hz:i.zero=some z)
  (jQ:i.size=size) (FI:i.bytes=bytes) (Le:z.cells.size=size) (mO:0<size)
  (v:Value) (n:Nat) (xs:List Value) (hs:a.eval s=v) (aL:w.ownsRow base e size v n xs)
  (ad:Addr) (c:Nat) (news:List Value) (hx:a.eval x=.slice (some ad) 1 c) (hl:news.length=size) (iG:∀j u,news[j]?=some u->w.cell? (ad.add j)=some u) (h1:∀u∈news,u.oneCell'=true)
  (Ky:n+1<=1000000) (hb:bytes<=1000) (gI:base<=w.heap.size)
  (hK:∀g cap w',w'.ownsRow base e size (.slice (some ⟨g,0,none⟩) (n+1) cap) (n+1) (xs++news)->w.grownBy w' v.ownBlock->(some g=v.ownBlock\/g=w.heap.size)->K (a.put o.dst (.slice (some ⟨g,0,none⟩) (n+1) cap)) w') :
  if Region.wanted o (yielded ops a.tmps)=true then Oper.wp P o a w K Q else E:=by
 have hw:Region.wanted o (yielded ops a.tmps)=true:=by simp[Region.wanted,hg]
 rw[if_pos hw];obtain⟨v',w',F9,r1,r2,r3,g,cap,rfl⟩:=D3 (P:=P) w base t o.type e i z size bytes ht hi hz jQ FI Le mO v n xs aL ad c news hl iG h1 Ky hb gI;unfold Oper.wp;simp[execOp,pq,resolve,invoke,builtin,hs,hx,F9,Result.andThen];exact hK g cap w' r1 r2 (by simpa[Value.ownBlock] using r3)
end
