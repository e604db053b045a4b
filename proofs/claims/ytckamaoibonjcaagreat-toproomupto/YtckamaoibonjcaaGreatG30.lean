/- What is proved here: plain facts and contracts that the claimed theorem stands on. No condition but those that each names. -/
import Derived.Test.YtckamaoibonjcaaGreatG29
namespace Go.Proofs.YtckamaoibonjcaaGreat
open Go.RowKit Go.Maps
set_option maxRecDepth 100000
set_option maxHeartbeats 4000000
theorem K5{x y a v:Int}:ip a v=ip x y ↔ (a=x/\v=y)\/(a=y/\v=x):=by
 rcases gw x y with⟨b,d⟩|⟨b,d⟩<;>rcases gw a v with⟨c,e⟩|⟨c,e⟩<;>(rw[b,c];simp only[fC];omega)
theorem FS(i:Nat)(a:i<99):pD.take (i+1)=pD.take i++ [(i:Int)+1]:=by
 rw[dt,IW i a];rfl
def qA(g:Int×Int->Bool)(x:Int)(i:Nat):List Int:=(pD.take i).filter λy=>g (ip x y)
theorem FB(g:Int×Int->Bool)(x:Int)(i:Nat)(a:i<99):qA g x (i+1)=qA g x i++if g (ip x ((i:Int)+1))then [(i:Int)+1]else []:=by
 rw[qA,FS i a,List.filter_append,List.filter_cons,List.filter_nil];rfl
theorem IK(g:Int×Int->Bool)(x:Int):qA g x 99=pU g x:=by
 rw[qA,bw (by rw[nB];exact ai _)];rfl
theorem AB(g:Int×Int->Bool)(x:Int)(i:Nat):(qA g x i).length<=i:=by
 have:=List.length_filter_le (λa=>g (ip x a)) (pD.take i);rw[dr]at this;unfold qA;omega
theorem Fx(t l:List Int)(y:Int)(b:y∉l):xT t (l++ [y])=xT t l++if (t++xT t l).contains y then []else [y]:=by
 unfold xT;rw[List.filter_append,List.filter_cons,List.filter_nil];have a:(t++l.filter λy=> !t.contains y).contains y=t.contains y:=by
  rw[Bool.eq_iff_iff];simp[b]
 rw[a];cases t.contains y<;>rfl
structure SM (base mb n:Nat) (g:Int×Int->Bool) (w:World):Prop where
 lo:base<=mb
 map:∃D:DataW Value,w.ownsMap Tryz.prog 164 unitElem mb n D/\∀k,I2 k->has D (kl k)=g k
variable {base mb n:Nat} {g:Int×Int->Bool} {w:World}
theorem SM.lt(a:SM base mb n g w):base<=mb/\mb<w.heap.size:=by
 obtain⟨c,b,_⟩:=a.map;exact⟨a.lo,b.lt⟩
theorem SM.kee{S:Nat->Prop}{w':World}(a:SM base mb n g w)(k:bi S w w')(f:¬S mb):SM base mb n g w':=by
 obtain⟨c,b,e⟩:=a.map;refine⟨a.lo,c,?_,e⟩;have i:=b.lt;obtain⟨es,d,h,j⟩:=b;exact⟨es,d,(k.block mb i f).trans h,j⟩
theorem SM.later{w':World}(a:SM base mb n g w)(k:ag w w'):SM base mb n g w':=a.kee (aE k λ_=>False) id
theorem SM.rebase{a:Nat}(b:SM base mb n g w)(c:a<=base):SM a mb n g w:=⟨aw c b.lo,b.map⟩
theorem SM.mono(b:SM base mb n g w){m:Nat}(f:n<=m):SM base mb m g w:=by
 obtain⟨c,a,d,e⟩:=b;exact⟨c,a,d.mono f,e⟩
theorem SM.new(w:World):SM w.heap.size w.heap.size 0 (λ_=>false) (w.alloc (.map #[] 0)):=
 ⟨ai _,.map [],oG w _ _ _,λk _=>by simp[has]⟩
theorem BC(w:World):(zeroValue 231).run Tryz.prog w=.ok (.agg #[]) w:=by kernel_rfl
theorem SM.look(b:SM base mb n g w){k:Int×Int}(a:I2 k):(Instr.lookup 66 (.map (some mb)) (pk k) true).run Tryz.prog w=.ok (.tuple #[.agg #[],.bool (g k)]) w:=by
 obtain⟨h,c,d⟩:=b.map;obtain⟨i,ps,e,f⟩:=c.look_ok eK Tryz.underlying66 (BC w) unitElem_mk (fp a);obtain⟨rfl,_⟩:=unitElem_inv f;rw[e,d k a]
theorem C5(w:World){k:Int×Int}(b:I2 k):(Instr.lookup 66 (.map none) (pk k) true).run Tryz.prog w=.ok (.tuple #[.agg #[],.bool false]) w:=by
 have a:=look_nil (P:=Tryz.prog) (w:=w) true eK Tryz.underlying66 (BC w) (fp b);simpa using a
theorem SM.put(d:SM base mb n g w){k:Int×Int}(c:I2 k)(s:n<1000000):∃w2,(Instr.mapUpdate 66 (.map (some mb)) (pk k) (.agg #[])).run Tryz.prog w=.ok () w2/\SM base mb (n+1) (gH g k true) w2/\bi (λb=>b=mb) w w2/\w2.heap.size=w.heap.size:=by
 obtain⟨r,e,j⟩:=d.map;obtain⟨w2,o,m,q⟩:=e.store eK Tryz.underlying66 (by unfold maxLen;omega) (fp c) unitElem_mk;obtain⟨l,p⟩:=iw q;refine⟨w2,o,⟨d.lo,_,m,λh f=>?_⟩,l,p⟩;by_cases a:h=k
 ·rw[a,cD,has_put_same e.isMap (eK.key (fp c))]
 ·rw[bJ _ _ a,has_put_other λi=>a (px f c i)];exact j h f
theorem SM.drop(c:SM base mb n g w){k:Int×Int}(e:I2 k)(ty:TypeId):∃w2,(Builtin.delete_ #[66,164] ty #[.map (some mb),pk k]).run Tryz.prog w=.ok (.tuple #[]) w2/\SM base mb n (gH g k false) w2/\bi (λb=>b=mb) w w2/\w2.heap.size=w.heap.size:=by
 obtain⟨r,i,j⟩:=c.map;obtain⟨w2,o,m,q⟩:=i.drop eK Tryz.underlying66 (fp e) ty;obtain⟨l,p⟩:=iw q;refine⟨w2,o,⟨c.lo,_,m,λf d=>?_⟩,l,p⟩;by_cases a:f=k
 ·rw[a,cD,has_del_same]
 ·rw[bJ _ _ a,has_del_other λh=>a (px d e h)];exact j f d
/-! ### rows of numbers -/
def jn(l:List Int):List Value:=l.map (Value.int .i64)
theorem kO(l:List Int)(k:Int):jn (l++ [k])=jn l++ [.int .i64 k]:=by simp[jn]
def g9(base:Nat)(v:Value)(l:List Int)(w:World):Prop:=w.ownsRow base 3 1 v l.length (jn l)
def sC(v:Value)(l:List Int)(w:World):Prop:=∃a c,v=.slice a l.length c/\(l=[]\/∃g o,a=some ⟨g,o,none⟩/\g<w.heap.size/\∀(i:Nat)(k:Int),l[i]?=some k->w.cell? ⟨g,o+i,none⟩=some (.int .i64 k))
theorem g9.row{v:Value}{l:List Int}(c:g9 base v l w):sC v l w:=by
 have d:=c;rcases c.2 with⟨rfl,b⟩|⟨g,cap,i,rfl,_,e,_⟩
 ·exact⟨none,0,by rw[b],ae (bD b)⟩
 ·refine⟨some ⟨g,0,none⟩,cap,rfl,af ⟨g,0,rfl,(aA.1 e).1,λh k f=>?_⟩⟩;have a:=d.cells (g:=g) rfl h (.int .i64 k) (by simp[jn,f]);rw[ez,cN]at a;rw[cN];exact a
theorem g9.nil(base:Nat)(w:World):g9 base (.slice none 0 0) [] w:=⟨rfl,ae ⟨rfl,rfl⟩⟩
theorem g9.later{v:Value}{l:List Int}{w':World}(a:g9 base v l w)(k:ag w w'):g9 base v l w':=aW a (aE k λ_=>False) λ_ _ a=>a
theorem sC.later{v:Value}{l:List Int}{w':World}(a:sC v l w)(k:ag w w'):sC v l w':=by
 obtain⟨f,c,b,a⟩:=a;refine⟨f,c,b,?_⟩;rcases a with a|⟨g,o,b,d,a⟩
 ·exact ae a
 ·exact af ⟨g,o,b,aJ d k.size,λe i h=>(k.cell (p:=⟨g,o+e,none⟩) d).trans (a e i h)⟩
def mY(a:Int):Bool:=decide (1<=a) && decide (a<=99)
theorem lw(a:Int)(w:World):ah 146 #[.int .i64 a] w λe w'=>e=.returned (.bool (mY a))/\w'=w:=by
 go_enter Tryz.func146,Tryz.ntmps146;by_cases b:1<=a
 ·go_wp2_with fail
  go_ret
  exact⟨bG (by simp[mY,b]),rfl⟩
 ·go_wp2_with fail
  go_ret
  exact⟨bG (by simp[mY];omega),rfl⟩
theorem nP(x y:Int)(w:World):ah 141 #[.int .i64 x,.int .i64 y] w λe w'=>e=.returned (.agg #[.int .i64 (ip x y).1,.int .i64 (ip x y).2])/\ag w w':=by
 go_enter Tryz.func141,Tryz.ntmps141;go_wp2_with fail
 all_goals
  exact ap (v:=.agg #[.int .i64 (ip x y).1,.int .i64 (ip x y).2]) (by simp[results,Tryz.results141,go_sem,ip]<;>omega) rfl ⟨rfl,(ak _ _).alloc (ai _) _⟩
theorem jB{base e sz n:Nat}{v:Value}{xs:List Value}{w d:World}{o:Obj}(f:w.ownsRow base e sz v n xs)(c:(w.alloc o).grownBy d v.ownBlock)(g:base<=w.heap.size):Below base w d:=by
 have a:Below base w (w.alloc o):=(ak _ _).alloc g _;refine⟨c.os.trans a.os,c.tape.trans a.tape,c.output.trans a.output,aw a.size c.size,λb h=>(c.block b (by simp;omega) λe=>?_).trans (a.block b h)⟩;have:=(f.lt b e.symm).1;omega
theorem ye{x y:Int}(b:dh x)(c:dh y):I2 (ip x y):=by
 rcases gw x y with⟨a,_⟩|⟨a,_⟩<;>rw[a]
 ·exact⟨b,c⟩
 ·exact⟨c,b⟩
theorem Nt(b:Nat)(a:b<=1000):dh (b:Int):=by unfold dh;omega
theorem G6(g:Int×Int->Bool)(i:BL)(R:Option Nat)(x:Int)(w:World)(al:i.b<w.heap.size)(av:Hid (dh x))(ad:Hid (w.cell? ⟨i.b,i.o,none⟩=some (.map R)))(s:Hid (∀k,I2 k->∀W,ag w W->(Instr.lookup 66 (.map R) (pk k) true).run Tryz.prog W=.ok (.tuple #[.agg #[],.bool (g k)]) W)):ah 140 #[.pointer (some ⟨i.b,i.o,none⟩),.int .i64 x] w λe w'=>∃v,e=.returned v/\Hid (g9 w.heap.size v (pU g x) w'/\ag w w'):=by
 obtain⟨C,am,ap,aq,ar⟩:=bO DY;have l:Hid (Tryz.prog.info? 3=some C/\C.zero=some (.int .i64 0)/\C.size=1/\C.bytes=8):=⟨am,ap,aq,ar⟩;clear am ap aq ar;go_enter Tryz.func140,Tryz.ntmps140;go_wp2_with fail;go_loopw [5,6] (λv ab wr=>∃(b:Nat),1<=b/\b<=100/\ab=.int .i64 b/\(∃q d c,v=.slice q d c/\d<=99/\Hid ((qA g x (b-1)).length=d/\wr.ownsRow w.heap.size 3 1 (.slice q d c) d (jn (qA g x (b-1)))/\ag w wr))) (λ_ ab _=>100-(intOf ab).toNat)
 case atStart=>exact⟨1,by omega,by omega,rfl,none,0,0,rfl,by omega,rfl,⟨rfl,ae ⟨rfl,rfl⟩⟩,ak _ _⟩
 case round=>
  obtain⟨b,aC,F,rfl,q,d,c,rfl,Y,a⟩:=hrel;by_cases aA:b<=99
  ·have aB:(b:Int)<=99:=by omega
   have X:wr.cell? ⟨i.b,i.o,none⟩=some (.map R):=(a.out.2.2.cell (p:=⟨i.b,i.o,none⟩) al).trans ad.out;have af:Hid (I2 (ip x b)):=ye av.out (Nt b (by omega));have j:Hid (qA g x b=qA g x (b-1)++if g (ip x b)then [(b:Int)]else []):=by
    have y:=FB g x (b-1) (by omega);have aw:b-1+1=b:=by omega
    have ay:((b-1:Nat):Int)+1=(b:Int):=by omega
    rw[aw,ay]at y;exact y
   have O:=λW Z=>s.out (ip x b) af.out W (a.out.2.2.trans (Below.mono Z a.out.2.2.size));have aa:=λW=>nP x b W;obtain⟨t,ao⟩:∃t,t=g (ip x b):=⟨_,rfl⟩;rw[<-ao]at O j;have V:=aj (show d<=b-1 by have:=AB g x (b-1);have:=a.out.1;omega);unfold pk at O;obtain⟨⟨aD,aF⟩,az⟩:∃p,p=ip x b:=⟨_,rfl⟩;rw[<-az]at O aa;have J:=aj aa;replace s:=aj O;have B:Hid (∀W,ag wr W->W.cell? ⟨i.b,i.o,none⟩=some (.map R)):=λW Z=>((a.out.2.2.trans (Below.mono Z a.out.2.2.size)).cell (p:=⟨i.b,i.o,none⟩) al).trans ad.out;have D:Hid (ag wr wr.drew):=(ak _ _).drew;have E:Hid (∀o:Obj,ag wr (wr.alloc o).drew):=λo=>((ak _ _).alloc (ai _) o).drew;clear ao O aa af;go_wp2_with fail
   go_region_held3 (λW=>W.cell? ⟨i.b,i.o,none⟩=some (.map R)) (first|(go_keep;done)|exact B.out _ D.out|exact B.out _ (E.out _)|exact B.out _ (f.out.alloc f.out.size _)|exact B.out _ f.out) ((first
    | (go_at_call 141;refine(J.out _).mono ?_;rintro e G ⟨rfl,F⟩;have f:=aj (D.out.trans (F.mono D.out.size));have U:=s.out _ f.out;have an:=s.out _ (f.out.alloc f.out.size (.cells #[] 231));clear F)
    | (go_at_call 141;refine(J.out _).mono ?_;rintro e G ⟨rfl,F⟩;have f:=aj ((E.out _).trans (F.mono (E.out _).size));have U:=s.out _ f.out;clear F)))
   ·obtain⟨h,r⟩:∃h,h=G.alloc (.cells #[] 231):=⟨_,rfl⟩;rw[<-r];have n:Hid (ag wr h):=by rw[r];exact f.out.alloc f.out.size _
    obtain⟨S,Q⟩:∃S,S=G.heap.size:=⟨_,rfl⟩;rw[<-Q];clear r an Q;have HB:=aj (a.out.2.2.trans (n.out.mono a.out.2.2.size));have m:=aj (aW a.out.2.1 (aE n.out λ_=>False) λ_ _ y=>y);have u:=aj a.out.1;have K:=aj HB.out.size;clear a f n s J B D E U X;cases t
    ·go_wp2_with fail;go_roundw
     case rel=>exact⟨b+1,by omega,by omega,by go_num,q,d,c,rfl,Y,by rw[eD,j.out];simpa using u.out,by rw[eD,j.out];simpa using m.out,HB.out⟩
     case measure=>simp[intOf];omega
    ·go_wp2_with (first
       | (at_builtin;refine wpList_append_lies _ rfl _ _ 44 rfl w.heap.size 3 C _ 1 8 Tryz.underlying44 l.out.1 l.out.2.1 l.out.2.2.1 l.out.2.2.2 rfl (by decide) (.slice q d c) d (jn (qA g x (b-1))) rfl (m.out.alloc _) ⟨h.heap.size,0,none⟩ 1 1 [.int .i64 b] rfl rfl (World.news_of_block (cs:= #[.int .i64 b]) (t:=3) (fr:=(0,0)) (ax h _)) (by simp[Value.oneCell']) (by decide) (by unfold maxLen;omega) (by omega) (by have:=K.out;simp;omega) _ rfl ?_;intro M L au A z N P;have I:=aj A;have H:=aj (HB.out.trans (jB m.out z HB.out.size));clear A z N P))
     go_roundw
     case rel=>
      refine⟨b+1,by omega,by omega,by go_num,some ⟨M,0,none⟩,d+1,L,rfl,by have:=V.out;omega,?_,?_,H.out⟩
      ·rw[eD,j.out];simpa using u.out
      ·rw[eD,j.out,if_pos rfl,kO];exact I.out
     case measure=>simp[intOf];omega
   ·obtain⟨h,r⟩:∃h,h=G.alloc (.cells #[] 231):=⟨_,rfl⟩;rw[<-r];have n:Hid (ag wr h):=by rw[r];exact f.out.alloc f.out.size _
    obtain⟨S,Q⟩:∃S,S=G.heap.size:=⟨_,rfl⟩;rw[<-Q];clear r Q;have HB:=aj (a.out.2.2.trans (n.out.mono a.out.2.2.size));have m:=aj (aW a.out.2.1 (aE n.out λ_=>False) λ_ _ y=>y);have u:=aj a.out.1;have K:=aj HB.out.size;clear a f n s J B D E U an X;cases t
    ·go_wp2_with fail;go_roundw
     case rel=>exact⟨b+1,by omega,by omega,by go_num,q,d,c,rfl,Y,by rw[eD,j.out];simpa using u.out,by rw[eD,j.out];simpa using m.out,HB.out⟩
     case measure=>simp[intOf];omega
    ·go_wp2_with (first
       | (at_builtin;refine wpList_append_lies _ rfl _ _ 44 rfl w.heap.size 3 C _ 1 8 Tryz.underlying44 l.out.1 l.out.2.1 l.out.2.2.1 l.out.2.2.2 rfl (by decide) (.slice q d c) d (jn (qA g x (b-1))) rfl (m.out.alloc _) ⟨h.heap.size,0,none⟩ 1 1 [.int .i64 b] rfl rfl (World.news_of_block (cs:= #[.int .i64 b]) (t:=3) (fr:=(0,0)) (ax h _)) (by simp[Value.oneCell']) (by decide) (by unfold maxLen;omega) (by omega) (by have:=K.out;simp;omega) _ rfl ?_;intro M L au A z N P;have I:=aj A;have H:=aj (HB.out.trans (jB m.out z HB.out.size));clear A z N P))
     go_roundw
     case rel=>
      refine⟨b+1,by omega,by omega,by go_num,some ⟨M,0,none⟩,d+1,L,rfl,by have:=V.out;omega,?_,?_,H.out⟩
      ·rw[eD,j.out];simpa using u.out
      ·rw[eD,j.out,if_pos rfl,kO];exact I.out
     case measure=>simp[intOf];omega
   ·obtain⟨h,r⟩:∃h,h=G:=⟨_,rfl⟩;subst r;have n:=aj f.out;have HB:=aj (a.out.2.2.trans (n.out.mono a.out.2.2.size));have m:=aj (aW a.out.2.1 (aE n.out λ_=>False) λ_ _ y=>y);have u:=aj a.out.1;have K:=aj HB.out.size;clear a f n s J B D E U X;cases t
    ·go_wp2_with fail;go_roundw
     case rel=>exact⟨b+1,by omega,by omega,by go_num,q,d,c,rfl,Y,by rw[eD,j.out];simpa using u.out,by rw[eD,j.out];simpa using m.out,HB.out⟩
     case measure=>simp[intOf];omega
    ·go_wp2_with (first
       | (at_builtin;refine wpList_append_lies _ rfl _ _ 44 rfl w.heap.size 3 C _ 1 8 Tryz.underlying44 l.out.1 l.out.2.1 l.out.2.2.1 l.out.2.2.2 rfl (by decide) (.slice q d c) d (jn (qA g x (b-1))) rfl (m.out.alloc _) ⟨h.heap.size,0,none⟩ 1 1 [.int .i64 b] rfl rfl (World.news_of_block (cs:= #[.int .i64 b]) (t:=3) (fr:=(0,0)) (ax h _)) (by simp[Value.oneCell']) (by decide) (by unfold maxLen;omega) (by omega) (by have:=K.out;simp;omega) _ rfl ?_;intro M L au A z N P;have I:=aj A;have H:=aj (HB.out.trans (jB m.out z HB.out.size));clear A z N P))
     go_roundw
     case rel=>
      refine⟨b+1,by omega,by omega,by go_num,some ⟨M,0,none⟩,d+1,L,rfl,by have:=V.out;omega,?_,?_,H.out⟩
      ·rw[eD,j.out];simpa using u.out
      ·rw[eD,j.out,if_pos rfl,kO];exact I.out
     case measure=>simp[intOf];omega
  ·obtain rfl:b=100:=by omega
   have T:=a.out;go_wp2_with fail
   go_ret
   refine⟨_,rfl,?_,T.2.2⟩;have e:=IK g x;rw[show 100-1=99 from rfl]at T;rw[<-e];unfold g9;rw[T.1];exact T.2.1
def ek(base:Nat)(c:BL)(a:Option Nat)(n:Nat)(g:Int×Int->Bool)(w:World):Prop:=
 base<=c.b/\sB c a w/\((a=none/\g=λ_=>false)\/∃mb,a=some mb/\SM base mb n g w)
def Kd(a:BL)(c:Option Nat)(b:Nat):Prop:=b=a.b\/c=some b
variable {base n:Nat} {bp:BL} {mo:Option Nat} {g:Int×Int->Bool} {w:World}
theorem ek.lt(d:ek base bp mo n g w)(b:Nat)(a:Kd bp mo b):base<=b/\b<w.heap.size:=by
 rcases a with rfl|a
 ·exact⟨d.1,d.2.1.lt⟩
 ·rcases d.2.2 with⟨c,_⟩|⟨mb,c,e⟩
  ·rw[c]at a;cases a
  ·rw[c]at a;injection a with a;subst a;exact e.lt
theorem ek.kee{S:Nat->Prop}{w':World}(c:ek base bp mo n g w)(k:bi S w w')(d:∀b,Kd bp mo b->¬S b):ek base bp mo n g w':=by
 refine⟨c.1,c.2.1.kept (k.block bp.b (c.lt bp.b (ae rfl)).2 (d bp.b (ae rfl))),?_⟩;rcases c.2.2 with a|⟨mb,a,e⟩
 ·exact ae a
 ·exact af ⟨mb,a,e.kee k (d mb (af a))⟩
theorem ek.later{w':World}(a:ek base bp mo n g w)(k:ag w w'):ek base bp mo n g w':=a.kee (aE k λ_=>False) λ_ _ a=>a
theorem ek.cell(a:ek base bp mo n g w):w.cell? ⟨bp.b,bp.o,none⟩=some (.map mo)/\w.frozen? ⟨bp.b,bp.o,none⟩=false:=⟨a.2.1.cell.1,a.2.1.cell.2 _⟩
theorem ek.look(b:ek base bp mo n g w){k:Int×Int}(a:I2 k):(Instr.lookup 66 (.map mo) (pk k) true).run Tryz.prog w=.ok (.tuple #[.agg #[],.bool (g k)]) w:=by
 rcases b.2.2 with⟨rfl,rfl⟩|⟨mb,rfl,c⟩
 ·exact C5 w a
 ·exact c.look a
theorem ek.ne{mb:Nat}(c:ek base bp (some mb) n g w):bp.b≠mb:=by
 intro e;rcases c.2.2 with⟨a,_⟩|⟨j,a,f⟩
 ·cases a
 ·injection a with a;subst a e;obtain⟨h,⟨es,i,d,_⟩,_⟩:=f.map;rw[c.2.1.2]at d;cases d
theorem Kg(a:ek base bp mo n g w){x:Int}(f:dh x):ah 140 #[.pointer (some ⟨bp.b,bp.o,none⟩),.int .i64 x] w λe w'=>∃v,e=.returned v/\Hid (g9 w.heap.size v (pU g x) w'/\ag w w'):=
 G6 g bp mo x w (a.lt bp.b (ae rfl)).2 f a.cell.1 λ_ d _ c=>(a.later c).look d
theorem Ki(mb:Nat)(W:World):(binOp .eql 66 (.map (some mb)) (.map none)).run Tryz.prog W=.ok (.bool false) W:=by kernel_rfl
theorem Kh(W:World):(binOp .eql 66 (.map none) (.map none)).run Tryz.prog W=.ok (.bool true) W:=by kernel_rfl
theorem G4(bp:BL)(mb:Nat)(x y:Int)(w:World)(g:World->Prop)(v:bp.b<w.heap.size)(i:Hid (w.cell? ⟨bp.b,bp.o,none⟩=some (.map (some mb))))(l:Hid (mY x=true/\mY y=true))(C:x≠y)(k:Hid (∀W,ag w W->∃w2,(Instr.mapUpdate 66 (.map (some mb)) (.agg #[.int .i64 (ip x y).1,.int .i64 (ip x y).2]) (.agg #[])).run Tryz.prog W=.ok () w2/\w2.cell? ⟨bp.b,bp.o,none⟩=some (.map (some mb))/\Hid (g w2))):ah 108 #[.pointer (some ⟨bp.b,bp.o,none⟩),.int .i64 x,.int .i64 y] w λe w'=>e=.returned (.int .i64 0)/\g w':=by
 have B:=i.out;have c:=λW=>lw x W;have d:=λW=>lw y W;have D:=Ki mb;rw[l.out.1]at c;rw[l.out.2]at d;have n:=aj c;have q:=aj d;clear c d;have f:=λW=>nP x y W;obtain⟨⟨F,G⟩,A⟩:∃p,p=ip x y:=⟨_,rfl⟩;rw[<-A]at f k;have t:=aj f;clear f;have j:Hid (∀W,ag w W->W.cell? ⟨bp.b,bp.o,none⟩=some (.map (some mb))):=λW u=>(u.cell (p:=⟨bp.b,bp.o,none⟩) v).trans i.out;have a:Hid (ag w w.drew):=(ak _ _).drew;go_enter Tryz.func108,Tryz.ntmps108;go_wp2_with fail;refine(n.out _).mono ?_;rintro e H ⟨rfl,rfl⟩;go_wp2_with fail;refine(q.out _).mono ?_;rintro e w2 ⟨rfl,rfl⟩;go_wp2_with fail
 go_region_held3 (λW=>W.cell? ⟨bp.b,bp.o,none⟩=some (.map (some mb))) (first|(go_keep;done)|exact j.out _ a.out|exact j.out _ h.out|exact r.out) ((first
       | (go_at_call 141;refine(t.out _).mono ?_;rintro e I ⟨rfl,m⟩;have h:=aj (a.out.trans (m.mono a.out.size));obtain⟨J,E,z,s⟩:=k.out _ h.out;have r:=aj z;clear m)))
 go_wp2_with fail
 go_ret
 exact⟨rfl,s.out⟩
theorem EG(bp:BL)(x y:Int)(w w0:World)(g:World->Prop)(H:bp.b<w.heap.size)(s:Hid (w.cell? ⟨bp.b,bp.o,none⟩=some (.map none)/\w.frozen? ⟨bp.b,bp.o,none⟩=false))(l:Hid (mY x=true/\mY y=true))(J:x≠y)(n:w0=(w.setCell ⟨bp.b,bp.o,none⟩ (.map (some w.heap.size))).alloc (.map #[] 0))(i:Hid (w0.cell? ⟨bp.b,bp.o,none⟩=some (.map (some w.heap.size))))(B:bp.b<w0.heap.size)(k:Hid (∀W,ag w0 W->∃w2,(Instr.mapUpdate 66 (.map (some w.heap.size)) (.agg #[.int .i64 (ip x y).1,.int .i64 (ip x y).2]) (.agg #[])).run Tryz.prog W=.ok () w2/\w2.cell? ⟨bp.b,bp.o,none⟩=some (.map (some w.heap.size))/\Hid (g w2))):ah 108 #[.pointer (some ⟨bp.b,bp.o,none⟩),.int .i64 x,.int .i64 y] w λe w'=>e=.returned (.int .i64 0)/\g w':=by
 obtain⟨E,G⟩:=s.out;have c:=λW=>lw x W;have d:=λW=>lw y W;have K:=Kh;have I:= @run_makeMap Tryz.prog;rw[l.out.1]at c;rw[l.out.2]at d;have q:=aj c;have r:=aj d;clear c d;have f:=λW=>nP x y W;obtain⟨⟨M,N⟩,D⟩:∃p,p=ip x y:=⟨_,rfl⟩;rw[<-D]at f k;have v:=aj f;have z:=aj n;clear f n;have j:Hid (∀W,ag w0 W->W.cell? ⟨bp.b,bp.o,none⟩=some (.map (some w.heap.size))):=λW A=>(A.cell (p:=⟨bp.b,bp.o,none⟩) B).trans i.out;have a:Hid (ag w0 w0.drew):=(ak _ _).drew;go_enter Tryz.func108,Tryz.ntmps108;go_wp2_with fail;refine(q.out _).mono ?_;rintro e O ⟨rfl,rfl⟩;go_wp2_with fail;refine(r.out _).mono ?_;rintro e w2 ⟨rfl,rfl⟩;go_wp2_with fail;rw[<-z.out];have F:=i.out
 go_region_held3 (λW=>W.cell? ⟨bp.b,bp.o,none⟩=some (.map (some w2.heap.size))) (first|(go_keep;done)|exact j.out _ a.out|exact j.out _ h.out|exact t.out) ((first
       | (go_at_call 141;refine(v.out _).mono ?_;rintro e P ⟨rfl,m⟩;have h:=aj (a.out.trans (m.mono a.out.size));obtain⟨Q,L,C,u⟩:=k.out _ h.out;have t:=aj C;clear m)))
 go_wp2_with fail
 go_ret
 exact⟨rfl,u.out⟩
theorem EF(bp:BL)(x y:Int)(w:World)(a:mY x=false\/mY y=false\/x=y):ah 108 #[.pointer (some ⟨bp.b,bp.o,none⟩),.int .i64 x,.int .i64 y] w λe w'=>e=.returned (.int .i64 1)/\w'=w:=by
 have f:=λc=>lw x c;have g:=λc=>lw y c;obtain⟨d,h⟩:∃d,d=mY x:=⟨_,rfl⟩;obtain⟨b,i⟩:∃b,b=mY y:=⟨_,rfl⟩;rw[<-h]at f a;rw[<-i]at g a;have k:=aj f;have l:=aj g;have m:=aj a;clear f g h i a;go_enter Tryz.func108,Tryz.ntmps108;go_wp2_with fail;refine(k.out _).mono ?_;rintro e p ⟨rfl,rfl⟩;cases d
 ·go_wp2_with fail
  go_ret
  exact⟨rfl,rfl⟩
 ·go_wp2_with fail;refine(l.out _).mono ?_;rintro e q ⟨rfl,rfl⟩;cases b
  ·go_wp2_with fail
   go_ret
   exact⟨rfl,rfl⟩
  ·have j:x=y:=by simpa using m.out
   have n:=aj j;subst j;go_wp2_with fail
   go_ret
   exact⟨rfl,rfl⟩
variable {base n:Nat} {bp:BL} {mo:Option Nat} {g:Int×Int->Bool} {w:World}
def ui(x y:Int):Int:=if mY x=true/\mY y=true/\x≠y then 0 else 1
def LU(base:Nat)(bp:BL)(mo:Option Nat)(n:Nat)(g:Int×Int->Bool)(w w':World):Prop:=
 ∃a,ek base bp a n g w'/\bi (Kd bp mo) w w'/\∀b,Kd bp a b->Kd bp mo b\/w.heap.size<=b
theorem ek.mono(b:ek base bp mo n g w){m:Nat}(c:n<=m):ek base bp mo m g w:=by
 refine⟨b.1,b.2.1,?_⟩;rcases b.2.2 with a|⟨mb,a,d⟩
 ·exact ae a
 ·exact af ⟨mb,a,d.mono c⟩
theorem EE(a:ek base bp mo n g w){x y:Int}(z:dh x)(A:dh y)(v:n<1000000):ah 108 #[.pointer (some ⟨bp.b,bp.o,none⟩),.int .i64 x,.int .i64 y] w λe w'=>e=.returned (.int .i64 (ui x y))/\Hid (LU base bp mo (n+1) (if ui x y=0 then gH g (ip x y) true else g) w w'):=by
 have q:=a.lt bp.b (ae rfl);by_cases f:mY x=true/\mY y=true/\x≠y
 ·have p:ui x y=0:=if_pos f;rw[p,if_pos rfl];rcases a.2.2 with⟨rfl,rfl⟩|⟨mb,rfl,D⟩
  ·obtain⟨h,l⟩:∃h,h=(w.setCell ⟨bp.b,bp.o,none⟩ (.map (some w.heap.size))).alloc (.map #[] 0):=⟨_,rfl⟩;have G:bi (λb=>b=bp.b) w (w.setCell ⟨bp.b,bp.o,none⟩ (.map (some w.heap.size))):=bt w bp.b bp.o _;have s:(w.setCell ⟨bp.b,bp.o,none⟩ (.map (some w.heap.size))).heap.size=w.heap.size:=by simp[World.setCell]
   have F:bi (λb=>b=bp.b) w h:=by
    rw[l];exact bi.trans G (aE ((ak _ _).alloc (ai _) _) λ_=>False) λ_ _ a=>a.elim
   have t:sB bp (some w.heap.size) h:=by
    rw[l];exact(a.2.1.set).kept (((ak _ _).alloc (ai _) _).block bp.b (by rw[s];exact q.2))
   have H:h.heap.size=w.heap.size+1:=by rw[l,gC,s]
   have C:SM base w.heap.size n (λ_=>false) h:=by
    have u:=SM.new (w.setCell ⟨bp.b,bp.o,none⟩ (.map (some w.heap.size)));rw[s,<-l]at u;exact(u.rebase (by omega)).mono (aB _)
   refine(EG bp x y w h (λw'=>LU base bp none (n+1) (gH (λ_=>false) (ip x y) true) w w') q.2 a.cell ⟨f.1,f.2.1⟩ f.2.2 l t.cell.1 (by omega) ?_).mono λe w' a=>⟨a.1,a.2⟩;intro B d;obtain⟨m,r,i,k,E⟩:=(C.later d).put (ye z A) v;have j:sB bp (some w.heap.size) m:=(t.kept (d.block bp.b (by omega))).kept (k.block bp.b (by have:=d.size;omega) (by omega));refine⟨m,r,j.cell.1,some w.heap.size,⟨a.1,j,af ⟨_,rfl,i⟩⟩,?_,λb c=>?_⟩
   ·refine bi.trans (bi.trans (F.mono λb _ e=>ae e) (aE d λ_=>False) λ_ _ a=>a.elim) k λb c e=>?_;omega
   ·rcases c with c|c
    ·exact ae (ae c)
    ·injection c with c;exact af (by omega)
  ·refine(G4 bp mb x y w (λw'=>LU base bp (some mb) (n+1) (gH g (ip x y) true) w w') q.2 a.cell.1 ⟨f.1,f.2.1⟩ f.2.2 ?_).mono λe w' a=>⟨a.1,a.2⟩;intro B d;obtain⟨m,r,i,k,E⟩:=(D.later d).put (ye z A) v;have j:sB bp (some mb) m:=(a.2.1.kept (d.block bp.b (by omega))).kept (k.block bp.b (by have:=d.size;omega) a.ne);refine⟨m,r,j.cell.1,some mb,⟨a.1,j,af ⟨_,rfl,i⟩⟩,?_,λb c=>ae c⟩;exact bi.trans (aE d _) k λb _ e=>af (by rw[e])
 ·have p:ui x y=1:=if_neg f;rw[p,if_neg (by decide)];refine(EF bp x y w ?_).mono ?_
  ·cases h1:mY x
   ·exact ae rfl
   ·cases i:mY y
    ·exact af (ae rfl)
    ·refine af (af ?_);by_cases e:x=y
     ·exact e
     ·exact absurd ⟨h1,i,e⟩ f
  ·rintro e w' ⟨rfl,rfl⟩;exact⟨rfl,mo,a.mono (fB n),bi.refl _ _,λb c=>ae c⟩
theorem Ck(a:Option Addr)(c:Nat)(l:List Int)(L:Nat)(y:Int)(w:World)(x:L<=1000000)(n:Hid (l.length=L))(q:Hid (∀(i:Nat)(k:Int),l[i]?=some k->∃g o,a=some ⟨g,o,none⟩/\w.cell? ⟨g,o+i,none⟩=some (.int .i64 k))):ah 142 #[.slice a L c,.int .i64 y] w λe w'=>∃r:Int,e=.returned (.int .i64 r)/\w'=w/\Hid (decide (0<=r)=l.contains y):=by
 go_enter Tryz.func142,Tryz.ntmps142;go_wp2_with fail;go_loopw [8] (λi wr=>∃b:Nat,b<=L/\i=.int .i64 b/\wr=w/\Hid (y∉l.take b)) (λi _=>L-(intOf i).toNat)
 case atStart=>exact⟨0,aB _,rfl,rfl,by simp[Hid]⟩
 case round=>
  obtain⟨b,u,rfl,rfl,p⟩:=hrel;by_cases s:b<L
  ·obtain⟨k,j⟩:∃k,l[b]?=some k:=⟨l[b]'(by rw[n.out];exact s),aD _⟩;obtain⟨g,o,rfl,t⟩:=q.out b k j;have m:=aj j;clear j;have z:(0:Int)<=(b:Int):=by omega
   have A:(b:Int)<(L:Int):=by omega
   by_cases h:y=k
   ·have f:Hid (l.contains y=true):=by
      rw[h];exact List.contains_iff_mem.2 (aC m.out)
    subst h;go_wp2_with fail
    go_ret
    exact⟨(b:Int),rfl,rfl,by rw[f.out];simp[Hid]⟩
   ·have f:Hid (y∉l.take (b+1)):=by
      rw[dt,m.out];intro d;rcases cU.1 d with d|d
      ·exact p.out d
      ·exact h (by simpa using d)
    have v:¬k=y:=λe=>h e.symm;go_wp2_with fail;go_roundw
    case rel=>exact⟨b+1,by omega,by go_num,trivial,f.out⟩
    case measure=>simp[intOf];omega
  ·obtain rfl:b=L:=by omega
   have f:Hid (l.contains y=false):=by
    have d:=p.out;rw[bw (by rw[n.out];exact ai _)]at d;exact(show l.contains y=false by simpa using d)
   go_wp2_with fail
   go_ret
   exact⟨-1,rfl,rfl,by rw[f.out];simp[Hid]⟩
theorem sC.cells{v:Value}{l:List Int}(b:sC v l w):∃a c,v=.slice a l.length c/\∀(i:Nat)(k:Int),l[i]?=some k->∃g o,a=some ⟨g,o,none⟩/\w.cell? ⟨g,o+i,none⟩=some (.int .i64 k):=by
 obtain⟨a,c,d,b⟩:=b;refine⟨a,c,d,λi k e=>?_⟩;rcases b with rfl|⟨g,o,d,_,b⟩
 ·simp at e
 ·exact⟨g,o,d,b i k e⟩
theorem tX(v:Value)(y:Int)(t:Bool)(w:World)(a:Hid (ah 142 #[v,.int .i64 y] w λe w'=>∃r:Int,e=.returned (.int .i64 r)/\w'=w/\Hid (decide (0<=r)=t))):ah 106 #[v,.int .i64 y] w λe w'=>e=.returned (.bool t)/\w'=w:=by
 go_enter Tryz.func106,Tryz.ntmps106;go_wp2_with fail;refine a.out.mono ?_;rintro e c ⟨r,rfl,rfl,b⟩;go_wp2_with fail
 go_ret
 exact⟨bG (by rw[<-b.out]),rfl⟩
theorem vh{v:Value}{l:List Int}(b:sC v l w)(f:l.length<=1000000)(y:Int):ah 106 #[v,.int .i64 y] w λe w'=>e=.returned (.bool (l.contains y))/\w'=w:=by
 obtain⟨a,c,e,d⟩:=b.cells;rw[e];exact tX _ y _ w (Ck a c l l.length y w f rfl d)
theorem Ab(a b:Option Addr)(c d:Nat)(len:Nat)(w:World)(x:len<=1000000)(q:Hid (∀i,i<len->∃g o h j k,(a=some ⟨g,o,none⟩/\b=some ⟨h,j,none⟩)/\w.cell? ⟨g,o+i,none⟩=some (.int .i64 k)/\w.cell? ⟨h,j+i,none⟩=some (.int .i64 k))):ah 22 #[.slice a len c,.slice b len d] w λe w'=>e=.returned (.bool true)/\ag w w':=by
 go_enter Tryz.func22,Tryz.ntmps22;go_wp2_with fail;go_loopw [13] (λi wr=>∃f:Nat,f<=len/\i=.int .i64 f/\Hid (ag w wr)) (λi _=>len-(intOf i).toNat)
 case atStart=>exact⟨0,aB _,rfl,ak _ _⟩
 case round=>
  obtain⟨f,v,rfl,HB⟩:=hrel;by_cases u:f<len
  ·obtain⟨g,o,h,j,k,⟨rfl,rfl⟩,l,m⟩:=q.out f u;have s:=jj w ⟨g,o+f,none⟩ l;have t:=jj w ⟨h,j+f,none⟩ m;have n:=am HB.out;replace l:=(n _ _ s).trans l;replace m:=(n _ _ t).trans m;clear n;have y:(0:Int)<=(f:Int):=by omega
   have z:(f:Int)<(len:Int):=by omega
   have r:Hid (ag w wr.drew):=HB.out.drew;go_wp2_with fail;go_region_held3 (λp=>p.cell? ⟨g,o+f,none⟩=some (.int .i64 k)/\p.cell? ⟨h,j+f,none⟩=some (.int .i64 k)) (go_keep) (fail);go_wp2_with fail;go_roundw
   case rel=>exact⟨f+1,by omega,by go_num,r.out⟩
   case measure=>simp[intOf];omega
  ·obtain rfl:f=len:=by omega
   go_wp2_with fail
   go_ret
   exact⟨rfl,HB.out⟩
theorem Ci{v h:Value}{l:List Int}(q:sC v l w)(r:sC h l w)(u:l.length<=1000000):ah 22 #[v,h] w λe w'=>e=.returned (.bool true)/\ag w w':=by
 obtain⟨i,c,m,x⟩:=q.cells;obtain⟨b,j,n,y⟩:=r.cells;rw[m,n];refine Ab i b c j l.length w u λa d=>?_;have f:l[a]?=some (l[a]'d):=aD d;obtain⟨g,o,e,s⟩:=x a _ f;obtain⟨p,z,k,t⟩:=y a _ f;exact⟨g,o,p,z,_,⟨e,k⟩,s,t⟩
theorem BR(l:List Int)(L:Nat)(bp:BL)(mo:Option Nat)(x:Int)(w:World)(R:Option Addr->Nat->Nat->World->Prop)(K:L<=99)(C:Hid (l.length=L))(D:Hid (ah 140 #[.pointer (some ⟨bp.b,bp.o,none⟩),.int .i64 x] w λe w'=>∃a c,e=.returned (.slice a L c)/\Hid (R a c 0 w')))(f:Hid (∀a c j W,R a c j W->W.cell? ⟨bp.b,bp.o,none⟩=some (.map mo)/\∀(i:Nat)(k:Int),l[i]?=some k->∃g o,a=some ⟨g,o,none⟩/\W.cell? ⟨g,o+i,none⟩=some (.int .i64 k)))(HB:Hid (∀a c j W d,R a c j W->ag W d->R a c j d))(A:Hid (∀a c j k W,R a c j W->l[j]?=some k->∃d,(∀ty,(Builtin.delete_ #[66,164] ty #[.map mo,.agg #[.int .i64 (ip x k).1,.int .i64 (ip x k).2]]).run Tryz.prog W=.ok (.tuple #[]) d)/\R a c (j+1) d)):ah 105 #[.pointer (some ⟨bp.b,bp.o,none⟩),.int .i64 x] w λe w'=>∃a c,e=.returned (.slice a L c)/\Hid (R a c L w'):=by
 go_enter Tryz.func105,Tryz.ntmps105;go_wp2_with fail;refine D.out.mono ?_;rintro e T ⟨a,c,rfl,z⟩;go_wp2_with fail;go_loopw [13] (λi wr=>∃j:Nat,j<=L/\i=.int .i64 j/\Hid (R a c j wr)) (λi _=>L-(intOf i).toNat)
 case atStart=>exact⟨0,aB _,rfl,z.out⟩
 case round=>
  obtain⟨j,M,rfl,h⟩:=hrel;by_cases F:j<L
  ·obtain⟨k,m⟩:∃k,l[j]?=some k:=⟨l[j]'(by rw[C.out];exact F),aD _⟩;obtain⟨H,y⟩:=f.out a c j wr h.out;obtain⟨g,o,rfl,I⟩:=y j k m;have B:=aj m;clear m y;have O:(0:Int)<=(j:Int):=by omega
   have P:(j:Int)<(L:Int):=by omega
   have s:=aj (λW=>nP x k W);have q:=aj (λW (E:R (some ⟨g,o,none⟩) c j W)=>A.out _ _ _ k W E B.out);obtain⟨⟨Q,S⟩,v⟩:∃G,G=ip x k:=⟨_,rfl⟩;rw[<-v]at s q;clear v;have p:Hid (R (some ⟨g,o,none⟩) c j wr.drew):=HB.out _ _ _ _ _ h.out (ak _ _).drew;have J:=(f.out _ c j _ p.out).1;go_wp2_with fail
   go_region_held3 (λW=>W.cell? ⟨bp.b,bp.o,none⟩=some (.map mo)) (first|(go_keep;done)|exact(f.out _ _ _ _ n.out).1|exact(f.out _ _ _ _ r.out).1) ((first
    | (go_at_call 141;refine(s.out _).mono ?_;rintro e U ⟨rfl,t⟩;have n:=aj (HB.out _ _ _ _ _ p.out t);obtain⟨V,N,u⟩:=q.out _ n.out;have r:=aj u;clear t u)))
   go_wp2_with fail;go_roundw
   case rel=>exact⟨j+1,by omega,by go_num,r.out⟩
   case measure=>simp[intOf];omega
  ·obtain rfl:j=L:=by omega
   go_wp2_with fail
   go_ret
   exact⟨a,c,rfl,h.out⟩
variable {base n:Nat} {bp:BL} {mo:Option Nat} {g:Int×Int->Bool} {w:World}
theorem ek.drop(c:ek base bp mo n g w){k:Int×Int}(h:I2 k)(f:mo≠none):∃w2,(∀ty,(Builtin.delete_ #[66,164] ty #[.map mo,pk k]).run Tryz.prog w=.ok (.tuple #[]) w2)/\ek base bp mo n (gH g k false) w2/\bi (λb=>mo=some b) w w2/\w2.heap.size=w.heap.size:=by
 have i:=λmb (a:mo=some mb)=>(show ek base bp (some mb) n g w from a▸c).ne;rcases c.2.2 with⟨a,_⟩|⟨mb,rfl,l⟩
 ·exact absurd a f
 ·obtain⟨w2,j,e,d,m⟩:=l.drop h 0;refine⟨w2,λty=>j,⟨c.1,c.2.1.kept (d.block bp.b (c.lt bp.b (ae rfl)).2 (i mb rfl)),af ⟨mb,rfl,e⟩⟩,d.mono λb _ a=>by rw[a],m⟩
theorem ek.some(c:ek base bp mo n g w){k:Int×Int}(b:g k=true):mo≠none:=by
 rcases c.2.2 with⟨_,a⟩|⟨mb,a,_⟩
 ·rw[a]at b;cases b
 ·rw[a];simp
theorem rh(p:ek base bp mo n g w)(y:yV g){x:Int}(A:dh x):ah 105 #[.pointer (some ⟨bp.b,bp.o,none⟩),.int .i64 x] w λe w'=>∃v,e=.returned v/\Hid (g9 w.heap.size v (pU g x) w'/\ek base bp mo n (wo g [x]) w'/\bi (λb=>mo=some b) w w'):=by
 have G:∀b,mo=some b->b<w.heap.size:=λb e=>(p.lt b (af e)).2;have D:∀(d:Option Addr)(c h:Nat)(k:Int)(a:World),(g9 w.heap.size (.slice d (pU g x).length c) (pU g x) a/\ek base bp mo n (sF g x ((pU g x).take h)) a/\bi (λb=>mo=some b) w a)->(pU g x)[h]?=some k->∃m,(∀ty,(Builtin.delete_ #[66,164] ty #[.map mo,.agg #[.int .i64 (ip x k).1,.int .i64 (ip x k).2]]).run Tryz.prog a=.ok (.tuple #[]) m)/\(g9 w.heap.size (.slice d (pU g x).length c) (pU g x) m/\ek base bp mo n (sF g x ((pU g x).take (h+1))) m/\bi (λb=>mo=some b) w m):=by
  rintro d c h k a ⟨j,f,s⟩ l;have F:=iK.1 (aC l);have B:I2 (ip x k):=ye A (by unfold dh;omega);have E:sF g x ((pU g x).take h) (ip x k)=true:=by
   refine zD.2 ⟨F.2,λP I e=>?_⟩;rcases K5.1 e with⟨_,e⟩|⟨t,u⟩
   ·exact sh (nZ g x) l (e▸I)
   ·exact absurd (aC l) (by rw[u];exact AA y x)
  obtain⟨K,H,i,z,O⟩:=f.drop B (f.some E);refine⟨K,H,aW j z λb i e=>?_,?_,bi.trans s z λb _ e=>e⟩
  ·have:=(j.lt b i).1;have:=G b e;omega
  ·rw[dt,l];rw[show (some k).toList=[k]from rfl,EP];exact i
 refine(BR (pU g x) (pU g x).length bp mo x w (λd c h a=>g9 w.heap.size (.slice d (pU g x).length c) (pU g x) a/\ek base bp mo n (sF g x ((pU g x).take h)) a/\bi (λb=>mo=some b) w a) (uv g x) rfl ?_ ?_ ?_ D).mono ?_
 ·refine(Kg p A).mono ?_;rintro e w' ⟨v,rfl,q⟩;obtain⟨d,c,e,_⟩:=q.out.1.row;subst e;exact⟨d,c,rfl,q.out.1,p.later q.out.2,aE q.out.2 _⟩
 ·rintro d c h a ⟨j,f,_⟩;refine⟨f.cell.1,λJ k l=>?_⟩;obtain⟨L,M,e,C⟩:=j.row.cells;injection e with t u N;subst t;exact C J k l
 ·rintro d c h a m ⟨j,f,s⟩ i;exact⟨j.later i,f.later i,bi.trans s (aE i λ_=>False) λ_ _ p=>p.elim⟩
 ·rintro e w' ⟨d,c,rfl,r⟩;refine⟨_,rfl,r.out.1,?_,r.out.2.2⟩;have f:=r.out.2.1;rw[bw (ai _),Kr y]at f;exact f
def fy(g:Int×Int->Bool)(x:Int)(i:Nat)(l:List Int)(j:Nat):List Int:=cX g x i++xT (cX g x i) (l.take j)
theorem pN{g:Int×Int->Bool}{x:Int}{i:Nat}{l:List Int}(b:l.Nodup){j:Nat}{y:Int}(a:l[j]?=some y):fy g x i l (j+1)=fy g x i l j++if (fy g x i l j).contains y then []else [y]:=by
 unfold fy;rw[dt,a];rw[show (some y).toList=[y]from rfl,Fx _ _ _ (sh b a),lY]
theorem wS{g:Int×Int->Bool}{x:Int}{i:Nat}{y:Int}(a:(cX g x i)[i]?=some y):fy g x i (pU (wo g (x::(cX g x i).take i)) y) (pU (wo g (x::(cX g x i).take i)) y).length=cX g x (i+1):=by
 rw[cX,a];unfold fy;rw[bw (ai _)]
theorem Jv{g:Int×Int->Bool}(b:yV g){x:Int}{i:Nat}{y:Int}(c:(cX g x i)[i]?=some y)(j:Nat):(fy g x i (pU (wo g (x::(cX g x i).take i)) y) j).length<=99:=by
 have a:=(iv b x (i+1)).le;rw[<-wS c]at a;refine aw ?_ a;unfold fy;rw[aY,aY];refine Nat.add_le_add_left ?_ _;rw[bw (ai _)];exact(List.Sublist.filter _ (List.take_sublist j _)).length_le
theorem Lv{g:Int×Int->Bool}{x:Int}{i:Nat}{y:Int}(a:(cX g x i)[i]?=some y):wo (wo g (x::(cX g x i).take i)) [y]=wo g (x::(cX g x (i+1)).take (i+1)):=by
 rw[NG];have b:=(aL.1 a).1;rw[cX,a];simp only;rw[jg (by omega),dt,a];rfl
variable {base n:Nat} {bp:BL} {mo:Option Nat} {g:Int×Int->Bool} {w:World}
def LX(base:Nat)(bp:BL)(mo:Option Nat)(n:Nat)(g:Int×Int->Bool)(x:Int)(j:Nat)(a:Option Addr)(L c:Nat)(w W:World):Prop:=
 (cX g x j).length=L/\g9 w.heap.size (.slice a L c) (cX g x j) W/\ek base bp mo n (wo g (x::(cX g x j).take j)) W/\bi (λb=>mo=some b) w W
def L6(base:Nat)(bp:BL)(mo:Option Nat)(n:Nat)(g:Int×Int->Bool)(x:Int)(j:Nat)(l:List Int)(d:Option Addr)(e:Nat)(q:Nat)(a:Option Addr)(L c:Nat)(w W:World):Prop:=
 (fy g x j l q).length=L/\g9 w.heap.size (.slice a L c) (fy g x j l q) W/\g9 w.heap.size (.slice d l.length e) l W/\(∀b,(Value.slice a L c).ownBlock=some b->(Value.slice d l.length e).ownBlock≠some b)/\ek base bp mo n (wo g (x::(cX g x (j+1)).take (j+1))) W/\bi (λb=>mo=some b) w W
theorem sn{v:Value}{a:Option Addr}{L c:Nat}{l:List Int}(b:sC v l w)(e:v=.slice a L c)(i:Nat)(k:Int)(h:l[i]?=some k):∃g o,a=some ⟨g,o,none⟩/\w.cell? ⟨g,o+i,none⟩=some (.int .i64 k):=by
 obtain⟨j,m,d,b⟩:=b.cells;rw[e]at d;injection d with f n p;subst f;exact b i k h
theorem L6.more{x:Int}{j:Nat}{l:List Int}{v:Option Addr}{z q:Nat}{a:Option Addr}{L c:Nat}{W:World}(B:L6 base bp mo n g x j l v z q a L c w W)(I:l.Nodup)(M:∀b,Kd bp mo b->b<w.heap.size){y:Int}(N:l[q]?=some y)(J:(fy g x j l q).contains y=false){o:Obj}{f m:Nat}{h:World}(K:h.ownsRow w.heap.size 3 1 (.slice (some ⟨f,0,none⟩) (L+1) m) (L+1) (jn (fy g x j l q)++ [.int .i64 y]))(H:(W.alloc o).grownBy h (Value.slice a L c).ownBlock)(G:(Value.slice a L c).ownBlock=some f\/f=(W.alloc o).heap.size):L6 base bp mo n g x j l v z (q+1) (some ⟨f,0,none⟩) (L+1) m w h:=by
 obtain⟨p,C,r,s,D,E⟩:=B;have d:fy g x j l (q+1)=fy g x j l q++ [y]:=by
  rw[pN I N,J];rfl
 have F:ag W (W.alloc o):=(ak _ _).alloc (ai _) _;have k:bi (λb=>(Value.slice a L c).ownBlock=some b) W h:=bi.trans (aE F _) (dP H) λb _ d=>d;have u:∀b,(Value.slice a L c).ownBlock=some b->w.heap.size<=b:=λb e=>(C.lt b e).1;refine⟨by rw[d,aY,p];rfl,?_,aW r k λb e d=>s b d e,?_,D.kee k λb e d=>?_,bi.trans E k λb e d=>?_⟩
 ·unfold g9;rw[d,kO,aY,p];exact K
 ·intro b e t;have A:f=b:=aq e;subst A;rcases G with i|i
  ·exact s _ i t
  ·have:=(r.lt _ t).2;simp at i;omega
 ·have:=M b e;have:=u b d;omega
 ·have:=u b d;omega
theorem ED(base:Nat)(bp:BL)(mo:Option Nat)(n:Nat)(g:Int×Int->Bool)(x:Int)(w:World)(u:Hid (yV g))(Z:Hid (∀b,Kd bp mo b->b<w.heap.size))(X:Hid (ah 105 #[.pointer (some ⟨bp.b,bp.o,none⟩),.int .i64 x] w λe w'=>∃a L c,e=.returned (.slice a L c)/\Hid (LX base bp mo n g x 0 a L c w w'))):ah 74 #[.pointer (some ⟨bp.b,bp.o,none⟩),.int .i64 x,.bool false] w λe w'=>∃v,e=.returned v/\Hid (g9 w.heap.size v (sr g x) w'/\ek base bp mo n (wo g (x::sr g x)) w'/\bi (λb=>mo=some b) w w'):=by
 obtain⟨B,al,an,ao,ap⟩:=bO DY;have F:Hid (Tryz.prog.info? 3=some B/\B.zero=some (.int .i64 0)/\B.size=1/\B.bytes=8):=⟨al,an,ao,ap⟩;clear al an ao ap;go_enter Tryz.func74,Tryz.ntmps74;go_wp2_with fail;refine X.out.mono ?_;rintro e a9 ⟨a,L,c,rfl,M⟩;go_wp2_with fail;go_loopw [7,8] (λv q wr=>∃(d:Nat)(a:Option Addr)(L c:Nat),v=.slice a L c/\q=.int .i64 d/\d<=99/\L<=99/\Hid (LX base bp mo n g x d a L c w wr)) (λ_ q _=>100-(intOf q).toNat)
 case atStart=>exact⟨0,a,L,c,rfl,rfl,by omega,by have m:=(iv u.out x 0).le;have p:=M.out.1;omega,M.out⟩
 case round=>
  clear M X;obtain⟨d,a,L,c,rfl,rfl,a2,I,h⟩:=hrel;by_cases aM:d<L
  ·obtain⟨r,J⟩:∃r,(cX g x d)[d]?=some r:=⟨(cX g x d)[d]'(by rw[h.out.1];exact aM),aD _⟩;obtain⟨ad,o,rfl,aF⟩:=sn h.out.2.1.row rfl d r J;have H:=aj J;have az:Hid (dh r):=by
    have:=(iv u.out x d).rng r (aC J);unfold Hid dh;omega
   clear J;have a5:(0:Int)<=(d:Int):=by omega
   have a6:(d:Int)<(L:Int):=by omega
   have Y:=aj (rh h.out.2.2.1 (u.out.wo _) az.out);go_wp2_with fail;refine Y.out.mono ?_;rintro e U ⟨aV,rfl,G⟩;obtain⟨l,z⟩:∃l,l=pU (wo g (x::(cX g x d).take d)) r:=⟨_,rfl⟩;rw[<-z]at G;obtain⟨j,k⟩:∃j,j=l.length:=⟨_,rfl⟩;have a1:j<=99:=by
    have:=uv (wo g (x::(cX g x d).take d)) r;rw[k,z];exact this
   obtain⟨K,C,aS⟩:∃K C,aV=.slice K j C:=by
    obtain⟨aA,aE,e,_⟩:=G.out.1.row;exact⟨aA,aE,by rw[k];exact e⟩
   subst aS;have N:Hid l.Nodup:=by rw[z];exact nZ _ _
   have aa:Hid (∀f,(fy g x d l f).length<=99):=by rw[z];exact λf=>Jv u.out H.out f
   have aq:Hid (fy g x d l j=cX g x (d+1)):=by rw[k,z];exact wS H.out
   have W:Hid (L6 base bp mo n g x d l K C 0 (some ⟨ad,o,none⟩) L c w U):=by
    have aT:=Lv H.out (g:=g) (x:=x);have A:=G.out;have aR:∀b,mo=some b->b<w.heap.size:=λb e=>Z.out b (af e);have aN:bi (λb=>mo=some b) w U:=bi.trans h.out.2.2.2 A.2.2 λ_ _ e=>e;have ab:fy g x d l 0=cX g x d:=by simp[fy,xT]
    have aQ:g9 w.heap.size (.slice (some ⟨ad,o,none⟩) L c) (cX g x d) U:=aW h.out.2.1 A.2.2 λb R e=>by
     have:=(h.out.2.1.lt b R).1;have:=aR b e;omega
    refine⟨by rw[ab];exact h.out.1,by rw[ab];exact aQ,?_,?_,?_,aN⟩
    ·rw[<-k];exact qE A.1 h.out.2.2.2.size
    ·intro b R ai;rw[<-k]at ai;have:=(A.1.lt b ai).1;have:=(h.out.2.1.lt b R).2;omega
    ·rw[<-aT];exact A.2.1
   replace k:=aj k;clear G h Y aF z;go_wp2_with fail;go_loopw [7,28] (λv q wr=>∃(f:Nat)(a:Option Addr)(L c:Nat),v=.slice a L c/\q=.int .i64 f/\f<=j/\L<=99/\Hid (L6 base bp mo n g x d l K C f a L c w wr)) (λ_ q _=>j-(intOf q).toNat)
   case atStart=>exact⟨0,_,L,c,rfl,rfl,aB _,I,W.out⟩
   case round=>
    clear W;obtain⟨f,a,L,c,rfl,rfl,a4,I,i⟩:=hrel;by_cases aP:f<j
    ·obtain⟨s,T⟩:∃s,l[f]?=some s:=⟨l[f]'(by rw[<-k.out];exact aP),aD _⟩;obtain⟨aH,aU,rfl,aZ⟩:=sn i.out.2.2.1.row rfl f s T;have Q:=aj T;clear T;have a7:(0:Int)<=(f:Int):=by omega
     have a8:(f:Int)<(j:Int):=by omega
     have V:=aj (vh i.out.2.1.row (by rw[i.out.1];omega) s);obtain⟨t,S⟩:∃t,t=(fy g x d l f).contains s:=⟨_,rfl⟩;rw[<-S]at V;have P:=aj S;clear S;go_wp2_with fail;refine V.out.mono ?_;rintro e D ⟨rfl,rfl⟩;cases t
     ·have aX:=aj (aa.out (f+1));have au:Hid (L+1<=99):=by
       have m:=aa.out (f+1);have p:=i.out.1;rw[pN N.out Q.out,<-P.out,aY]at m;simp at m;unfold Hid;omega
      have ay:Hid (w.heap.size<=D.heap.size):=i.out.2.2.2.2.2.size;have aw:=aj i.out.2.1;have av:=aj i.out.1
      go_wp2_with (first
       | (at_builtin;refine wpList_append_lies _ rfl _ _ 44 rfl w.heap.size 3 B _ 1 8 Tryz.underlying44 F.out.1 F.out.2.1 F.out.2.2.1 F.out.2.2.2 rfl (by decide) (.slice a L c) L (jn (fy g x d l f)) rfl ((show D.ownsRow w.heap.size 3 1 (.slice a L c) L (jn (fy g x d l f))from by have y:=aw.out;unfold g9 at y;rw[av.out]at y;exact y).alloc _) ⟨D.heap.size,0,none⟩ 1 1 [.int .i64 s] rfl rfl (World.news_of_block (cs:= #[.int .i64 s]) (t:=3) (fr:=(0,0)) (ax D _)) (by simp[Value.oneCell']) (by decide) (by unfold maxLen;omega) (by omega) (by have:=ay.out;simp;omega) _ rfl ?_;intro a0 aG ba am ak ag aO;have O:=aj (i.out.more N.out Z.out Q.out P.out.symm am ak ag);clear am ak ag aO))
      go_roundw
      case rel=>exact⟨f+1,_,L+1,aG,rfl,by go_num,by omega,au.out,O.out⟩
      case measure=>simp[intOf];omega
     ·have O:Hid (L6 base bp mo n g x d l (some ⟨aH,aU,none⟩) C (f+1) a L c w D):=by
        have y:=i.out;unfold L6 at y ⊢;have e:fy g x d l (f+1)=fy g x d l f:=by
         rw[pN N.out Q.out,<-P.out];simp
        rw[e];exact y
      go_wp2_with fail;go_roundw
      case rel=>exact⟨f+1,_,L,c,rfl,by go_num,by omega,I,O.out⟩
      case measure=>simp[intOf];omega
    ·obtain rfl:f=j:=by omega
     have E:Hid (LX base bp mo n g x (d+1) a L c w wr):=by
      obtain⟨m,p,_,_,aJ,aK⟩:=i.out;rw[aq.out]at m p;exact⟨m,p,aJ,aK⟩
     have ar:Hid (d+1<=99):=by
      have:=(iv u.out x d).le;have:=(aL.1 H.out).1;unfold Hid;omega
     go_wp2_with fail;go_roundw
     case rel=>exact⟨d+1,a,L,c,rfl,by go_num,ar.out,I,E.out⟩
     case measure=>simp[intOf];omega
  ·have E:Hid (cX g x d=sr g x):=Gk u.out (by rw[h.out.1];omega);have a3:¬(d:Int)<(L:Int):=by omega
   go_wp2_with fail
   go_ret
   obtain⟨m,p,ae,aI⟩:=h.out;rw[bw (by omega),E.out]at ae;rw[E.out]at p;exact⟨_,rfl,p,ae,aI⟩
theorem zk(bp:BL)(x:Int)(w:World)(R:World->Prop)(c:Hid (ah 105 #[.pointer (some ⟨bp.b,bp.o,none⟩),.int .i64 x] w λe w'=>∃v,e=.returned v/\Hid (R w'))):ah 74 #[.pointer (some ⟨bp.b,bp.o,none⟩),.int .i64 x,.bool true] w λe w'=>e=.returned (.slice none 0 0)/\R w':=by
 go_enter Tryz.func74,Tryz.ntmps74;go_wp2_with fail;refine c.out.mono ?_;rintro e d ⟨v,rfl,a⟩;go_wp2_with fail
 go_ret
 exact⟨rfl,a.out⟩
def sG(g:Int×Int->Bool)(x:Int)(a:Bool):List Int:=if a then []else sr g x
theorem G0(f:ek base bp mo n g w)(h:yV g){x:Int}(i:dh x)(d:Bool):ah 74 #[.pointer (some ⟨bp.b,bp.o,none⟩),.int .i64 x,.bool d] w λe w'=>∃v,e=.returned v/\Hid (g9 w.heap.size v (sG g x d) w'/\ek base bp mo n (wo g (x::sG g x d)) w'/\bi (λb=>mo=some b) w w'):=by
 cases d
 ·rw[show sG g x false=sr g x from if_neg (by decide)];refine ED base bp mo n g x w h (λb m=>(f.lt b m).2) ?_;refine(rh f h i).mono ?_;rintro e w' ⟨v,rfl,a⟩;obtain⟨j,c,e,_⟩:=a.out.1.row;subst e;exact⟨j,_,c,rfl,rfl,a.out.1,a.out.2.1,a.out.2.2⟩
 ·refine(zk bp x w (λw'=>ek base bp mo n (wo g [x]) w'/\bi (λb=>mo=some b) w w') ?_).mono ?_
  ·refine(rh f h i).mono ?_;rintro e w' ⟨v,rfl,a⟩;exact⟨v,rfl,a.out.2⟩
  ·rw[show sG g x true=[]from if_pos rfl];rintro e w' ⟨rfl,k,l⟩;exact⟨_,rfl,g9.nil _ _,k,l⟩
def xI:ByteArray:=⟨#[115,112,97,119,110]⟩
def np:ByteArray:=⟨#[101,110,100]⟩
def ld:ByteArray:=⟨#[116,97,107,101]⟩
def B5:ByteArray:=⟨#[115,101,110,100]⟩
def mx:ByteArray:=⟨#[108,111,115,116]⟩
def ve:Tc:=((0,0,⟨#[]⟩),(none,0),[])
structure Sy where
 last:Int
 ps:List (Int×ByteArray×Tc×List Tc)
 ways:Int×Int->List Tc
 bonds:Int×Int->Bool
 evs:List (ByteArray×Int×Int×Tc)
def Sy.get(s:Sy)(k:Int):Option (ByteArray×Tc×List Tc):=(s.ps.find? λp=>p.1==k).map (·.2)
def Sy.put(s:Sy)(k:Int)(v:ByteArray×Tc×List Tc):Sy:={s with ps:=s.ps.map λp=>if p.1=k then (k,v)else p}
def Sy.tell(s:Sy)(wt:ByteArray)(a b:Int)(t:Tc):Sy:={s with evs:=s.evs++ [(wt,a,b,t)]}
def Sy.add(s:Sy)(a:Int)(nm:ByteArray)(cs:Tc):Sy:=Sy.tell {s with last:=s.last+1,ps:=s.ps++ [(s.last+1,nm,cs,[])]} xI a (s.last+1) cs
def Sy.drop(s:Sy)(x how:Int):Sy:=Sy.tell {s with ps:=s.ps.eraseP λp=>p.1==x} np x how ve
def Sy.fin(s:Sy)(x how:Int):Sy:=(sG s.bonds x (how==1)).foldl (λs y=>s.drop y 4) {s.drop x how with bonds:=wo s.bonds (x::sG s.bonds x (how==1))}
def Sy.deliver(s:Sy)(room a b:Int)(t:Tc):Sy:=match s.get b with
 | none=>s
 | some (nm,cs,cms)=>if lD 13 t room cs cms=2 then s.tell mx a b t else if lD 13 t room cs cms=6 then s.fin b 3 else if lD 13 t room cs cms=0 then s.put b (nm,cs,cms++ [t])else s
def Sy.send(s:Sy)(a b:Int)(t:Tc):Sy:=if mT 12 a b t (s.ways (a,b)).length=0 then Sy.tell {s with ways:=gH s.ways (a,b) (s.ways (a,b)++ [t])} B5 a b t else s.tell mx a b t
def Sy.link(s:Sy)(a b:Int):Sy:=if (s.get b).isSome then {s with bonds:=if ui a b=0 then gH s.bonds (ip a b) true else s.bonds}else s
def Sy.may(s:Sy)(n:Nat):Bool:=decide ((s.ps.length:Int)+n<=12) && decide (s.last+n<=90)
section
variable (n:Nat) (prog:List (Bh (n+1))) (room:Int)
def ky(nm:ByteArray):Bool:=(fN (n+1) nm prog).isSome
def Sy.made(s:Sy)(l:List (Int×ByteArray×Tc)):Bool:=s.may l.length && l.all λx=>ky n prog x.2.1 && fK 13 x.2.2 room x.2.1==0
def Sy.follow(s:Sy)(a:Int)(c:Tk):Sy:=
 let s:=c.spawns.foldl (λs b=>s.add a b.2.1 b.2.2) s
 let s:=c.sends.foldl (λs b=>s.send a b.1 b.2) s
 let s:=c.links.foldl (λs b=>s.link a b) s
 if c.fate=1 then s.fin a 1 else s
def Sy.run(s:Sy)(a:Int):Sy×Int:=match s.get a with
 | none=>(s,4)
 | some (nm,cs,cms)=>if qK n room prog nm a (s.last+1) cs cms=0 then match lR room prog nm a (s.last+1) cs cms with
     | none=>(s,0)
     | some b=>
      let s:=(s.put a (nm,b.state,b.mail)).tell ld a 0 b.message
      (if b.fate=2\/b.fate=3 then s.fin a b.fate else if s.made n prog room b.spawns=false then s.fin a 2 else s.follow a b,0)
  else (s,qK n room prog nm a (s.last+1) cs cms)
def Sy.arrive(s:Sy)(a b:Int):Sy×Int:=match s.ways (a,b)with
 | []=>(s,4)
 | t::l=>
  let s:={s with ways:=gH s.ways (a,b) l}
  (if (s.get b).isSome then s.deliver room a b t else s.tell mx a b t,0)
def Sy.inject(s:Sy)(a:Int)(k:Nat)(x:Tm k):Sy×Int:=if (s.get a).isSome=false then (s,4)else if bm k x≠0 then (s,bm k x)else if aF k x=false then (s,5)else (s.deliver room 0 a (cn k x),0)
def Sy.do(s:Sy)(c a b:Int)(k:Nat)(x:Tm k):Sy×Int:=if c=1 then s.run n prog room a else if c=2 then s.arrive room a b else if c=3 then s.inject room a k x else (s,1)
def Sy.start(s:Sy)(nm:ByteArray)(k:Nat)(x:Tm k):Sy×Int:=if s.may 1=false then (s,2)else if ky n prog nm=false then (s,4)else if fK k x room nm≠0 then (s,fK k x room nm)else (s.add 0 nm (cn k x),0)
end
end Go.Proofs.YtckamaoibonjcaaGreat
