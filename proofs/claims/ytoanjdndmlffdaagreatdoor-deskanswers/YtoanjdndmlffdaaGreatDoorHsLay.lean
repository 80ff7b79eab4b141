import Derived.Test.YtoanjdndmlffdaaGreatDoorSiteA
import Derived.Shelf.Strings.Split
namespace Go.Proofs.YtoanjdndmlffdaaGreatDoor
open Go.Shelf
def jem:Go.Shelf.Ren:=⟨λ|146=>14|221=>27|268=>72|138=>73|143=>74|195=>122|197=>123|218=>124|219=>121|260=>171|217=>167|225=>168|224=>169|267=>170|266=>226|314=>227|n=>n,λ|9=>9|31=>42|3=>3|4=>4|0=>0|105=>177|21=>21|5=>5|46=>190|119=>281|139=>284|138=>283|146=>279|51=>250|n=>n,λ|1=>1|3=>4|4=>5|n=>n⟩
theorem je2:Go.Proofs.Lays.n146 Tryz.prog jem:=by constructor<;>intros<;>kernel_rfl
open Go.RowKit Go.Lib in
theorem jee (s a:ByteArray) (m:Int) (w:World) (b:s.size<4294967281) (c:w.cell? (AD 1 0)=some (U m)) (d:1<=a.size):
 Ca 14 #[.string s,.string a] w λe w'=>
  e=.returned (.slice (PT w.heap.size) (Lib.countB s a+1) (Lib.countB s a+1))/\w'=w.alloc (.cells ((Lib.splitB a 0 (Lib.countB s a) s).map Value.string).toArray 9):=Any.strings_Split je2 (by kernel_rfl) s a m w b c d
end Go.Proofs.YtoanjdndmlffdaaGreatDoor
